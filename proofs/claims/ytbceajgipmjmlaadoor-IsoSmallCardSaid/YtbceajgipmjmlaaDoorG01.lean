import Derived.Test.YtbceajgipmjmlaaDoorG00
/- Part of the proof: Sb, Q1, Q2, Q3, Q4, Q5. -/
set_option linter.unusedVariables false
set_option linter.unusedSimpArgs false
set_option linter.unusedSectionVars false
/- Lists that a function makes by append, bytes of strings, lists that were there: steps over any program. -/
namespace Tw
open Go Go.RowKit Go.Proofs.YtbceajgipmjmlaaDoor
section
variable {P : Program} {W0 : Base} {T E : TypeId}
theorem inBlock_ret (id : Nat) (Q : Exit → Act → World → Prop) (a : Act) (w : World) : Exit.inBlock id Q .ret a w = Q .ret a w := rfl
theorem then_ret (f : Act → World → Prop) (Q : Exit → Act → World → Prop) (a : Act) (w : World) : Exit.then f Q .ret a w = Q .ret a w := rfl
def RowN (sz : Nat) (cur : Array Value) (cap n : Nat) (xs : List Value) : Prop := cur.size = cap * sz ∧ cap ≤ maxLen ∧ n ≤ cap ∧ xs.length = n * sz ∧ cur.toList.take (n * sz) = xs
def OwnL (W0 : Base) (E : TypeId) (sz : Nat) (v : Value) (n : Nat) (xs : List Value) (K : List (Nat × Obj)) : Prop :=
  (n = 0 ∧ xs = [] ∧ v = .slice none 0 0 ∧ K = []) ∨ ∃ g cap cur, v = .slice (some ⟨g, 0, none⟩) n cap ∧ W0.B ≤ g ∧ RowN sz cur cap n xs ∧ K = [(g, .cells cur E (0, 0))]
theorem OwnL.nil (W0 : Base) (E : TypeId) (sz : Nat) : OwnL W0 E sz (.slice none 0 0) 0 [] [] := .inl ⟨rfl, rfl, rfl, rfl⟩
structure Elem (P : Program) (T E : TypeId) (sz bts : Nat) (z : Value) : Prop where
  und : P.underlying T = some (.slice E)
  info : ∃ i, P.info? E = some i ∧ i.zero = some z ∧ i.size = sz ∧ i.bytes = bts
  zsz : z.cells.size = sz
theorem Elem.mk' {sz bts : Nat} {z : Value} (h1 : P.underlying T = some (.slice E)) (h2 : (P.info? E).map (fun i => (i.zero, i.size, i.bytes)) = some (some z, sz, bts)) (h3 : z.cells.size = sz) : Elem P T E sz bts z := by
  refine ⟨h1, ?_, h3⟩
  cases hi : P.info? E with
  | none => rw [hi] at h2; cases h2
  | some i =>
    rw [hi] at h2
    simp only [Option.map_some, Option.some.injEq, Prod.mk.injEq] at h2
    exact ⟨i, rfl, h2.1, h2.2.1, h2.2.2⟩
def AppO (W0 : Base) (E : TypeId) (sz : Nat) (K0 : List (Nat × Obj)) (n : Nat) (ys : List Value) (v : Value) (K' : List (Nat × Obj)) : Prop :=
  ∃ Kl, OwnL W0 E sz v n ys Kl ∧ (∀ p ∈ K0, ∀ q ∈ Kl, q.1 ≠ p.1) ∧ K' = K0 ++ Kl
theorem blk_cells {w : World} {h : Nat} {news : List Value} {t : TypeId} {fr : Nat × Nat} (hh : w.heap[h]? = some (.cells news.toArray t fr)) : ∀ (j : Nat) (u : Value), news[j]? = some u → w.cell? ((⟨h, 0, none⟩ : Addr).add j) = some u := by
  intro j u hu
  rw [addr_add, Nat.zero_add, cell_of_row w h j news.toArray _ fr hh]
  simpa using hu
theorem rown_new {sz n m cap : Nat} {olds news : List Value} (z : Array Value) (hz : z.size = sz) (ho : olds.length = n * sz) (hn : news.length = m * sz) (hc : n + m ≤ cap) (hm : cap ≤ maxLen) : RowN sz (olds.toArray ++ news.toArray ++ Builtin.zeroCells z (cap - (n + m))) cap (n + m) (olds ++ news) := by
  refine ⟨?_, hm, hc, by simp [ho, hn, Nat.add_mul], ?_⟩
  · simp only [Array.size_append, List.size_toArray, size_zeroCells, hz, ho, hn]
    rw [← Nat.add_mul, ← Nat.add_mul]
    congr 1
    omega
  · simp only [Array.toList_append, List.append_assoc]
    rw [← List.append_assoc, show (n + m) * sz = (olds ++ news).length from by simp [ho, hn, Nat.add_mul]]
    exact List.take_left
theorem appo_end {w : World} {K K0 : List (Nat × Obj)} (hw : KS W0 K w) (hsub : ∀ p ∈ K0, p ∈ K) {sz : Nat} {cur : Array Value} {cap n : Nat} {ys : List Value} (hR : RowN sz cur cap n ys) :
    KS W0 (K0 ++ [(w.heap.size, .cells cur E (0, 0))]) (w.drew.alloc (.cells cur E)) ∧ AppO W0 E sz K0 n ys (.slice (some ⟨w.heap.size, 0, none⟩) n cap) (K0 ++ [(w.heap.size, .cells cur E (0, 0))]) := by
  have hd : KS W0 K0 w.drew := ⟨hw.drew.1, fun p hp => hw.2 p (hsub p hp)⟩
  refine ⟨(hd.alloc (.cells cur E)).sub (fun p hp => ?_), _, .inr ⟨_, _, _, rfl, hw.size, hR, rfl⟩, fun p hp q hq e => ?_, rfl⟩
  · rcases List.mem_append.1 hp with h | h
    · exact .tail _ h
    · cases List.mem_singleton.1 h; exact .head _
  · cases List.mem_singleton.1 hq
    have := lt_of_block (hw.2 p (hsub p hp))
    have e' : w.heap.size = p.1 := e
    omega
theorem run_appv {o : Oper} {a : Act} {s x : Operand} {u v y : Value} {w w' : World} (ho : o.op = .call { callee := .builtin .append, args := #[s, x], argTypes := #[T, T] })
    (hs : a.eval s = u) (hx : a.eval x = y) (hr : (Builtin.append_ #[T, T] o.type #[u, y]).run P w = .ok v w') : (execOp a.eval o).run P w = .ok (.value v) w' := by
  unfold execOp
  simp only [ho, resolve, invoke, builtin, Sem.run_bind, Sem.run_pure, Result.andThen_ok, List.map_toArray, List.map_cons, List.map_nil, hs, hx, hr]
theorem app_own {o : Oper} {a : Act} {K K0 Kl : List (Nat × Obj)} {s x : Operand} {h m c n sz bts : Nat} {z v : Value} {fr : Nat × Nat} {news xs : List Value} (hE : Elem P T E sz bts z)
    (ho : o.op = .call { callee := .builtin .append, args := #[s, x], argTypes := #[T, T] }) (hs : a.eval s = v) (hx : a.eval x = .slice (some ⟨h, 0, none⟩) m c) (hm : (h, .cells news.toArray E fr) ∈ K)
    (hO : OwnL W0 E sz v n xs Kl) (hsub : ∀ p ∈ Kl, p ∈ K) (hK0 : ∀ p ∈ K0, p ∈ K ∧ ∀ q ∈ Kl, q.1 ≠ p.1) (hl : news.length = m * sz) (h1 : ∀ u ∈ news, u.oneCell' = true) (hm0 : 0 < m) (hn : n + m ≤ 4000000000) (hb : bts ≤ 10000) :
    ∀ w, KS W0 K w → ∃ v' K' w', (execOp a.eval o).run P w = .ok (.value v') w' ∧ KS W0 K' w' ∧ AppO W0 E sz K0 (n + m) (xs ++ news) v' K' := by
  intro w hw
  obtain ⟨hu, ⟨i, hi, hz, hsz, hby⟩, hzs⟩ := hE
  have hh := hw.2 _ hm
  have hmax : n + m ≤ maxLen := by unfold maxLen; omega
  have hbt : (n + m) * i.bytes ≤ 140737488355328 := by
    rw [hby]
    exact Nat.le_trans (Nat.mul_le_mul hn hb) (by decide)
  rcases hO with ⟨rfl, rfl, rfl, rfl⟩ | ⟨g, cap, cur, rfl, hB, ⟨r1, r2, r3, r4, r5⟩, rfl⟩
  · have hr := run_append_nil (P := P) w T o.type E i z hu hi hz ⟨h, 0, none⟩ m c news (by rw [hsz]; exact hl) (blk_cells hh) hm0 (by omega) (by rw [Nat.zero_add] at hbt; omega)
    have hg := grownCap_ge w m 0 E
    have hg2 := grownCap_le_maxLen w m 0 E (by omega)
    have hR := rown_new (sz := sz) (n := 0) (m := m) (olds := []) (news := news) z.cells hzs (by simp) hl (show 0 + m ≤ grownCap w m 0 E by omega) hg2
    simp only [Nat.zero_add, List.nil_append, show (([] : List Value).toArray ++ news.toArray) = news.toArray from by simp] at hR ⊢
    obtain ⟨e1, e2⟩ := appo_end (E := E) hw (fun p hp => (hK0 p hp).1) hR
    exact ⟨_, _, _, run_appv ho hs hx hr, e1, e2⟩
  · have hgc := hw.2 _ (hsub _ (.head _))
    by_cases hroom : n + m ≤ cap
    · have hmul : n * sz + m * sz ≤ cap * sz := by rw [← Nat.add_mul]; exact Nat.mul_le_mul_right _ hroom
      have hr := run_append_room (P := P) w T o.type E i hu hi g n cap cur hgc ⟨h, 0, none⟩ m c news (by rw [hsz]; exact hl) (blk_cells hh) h1 hroom (by rw [hsz, r1, hl]; exact hmul)
      refine ⟨_, K0 ++ [(g, .cells (cur.toList.take (n * i.size) ++ news ++ cur.toList.drop (n * i.size + news.length)).toArray E (0, 0))], _, run_appv ho hs hx hr, hw.setRow hB hgc ?_, _, .inr ⟨g, cap, _, rfl, hB, ⟨?_, r2, hroom, by simp [r4, hl, Nat.add_mul], ?_⟩, rfl⟩, fun p hp q hq => ?_, rfl⟩
      · intro p hp
        rcases List.mem_append.1 hp with hp | hp
        · exact .inr ⟨(hK0 p hp).1, fun e => (hK0 p hp).2 _ (.head _) e.symm⟩
        · exact .inl (List.mem_singleton.1 hp)
      · rw [hsz]
        simp only [List.size_toArray, List.length_append, List.length_take, List.length_drop, Array.length_toList, r1, hl]
        omega
      · rw [hsz, r5, show (n + m) * sz = (xs ++ news).length from by simp [r4, hl, Nat.add_mul]]
        exact List.take_left
      · cases List.mem_singleton.1 hq
        exact (hK0 p hp).2 (g, .cells cur E (0, 0)) (.head _)
    · have holds : ∀ j u, xs[j]? = some u → w.cell? ((⟨g, 0, none⟩ : Addr).add j) = some u := by
        intro j u hu
        rw [addr_add, Nat.zero_add, cell_of_row w g j cur _ (0, 0) hgc]
        rw [← r5, List.getElem?_take] at hu
        split at hu
        · simpa using hu
        · cases hu
      have hr := run_append_grow (P := P) w T o.type E i z hu hi hz ⟨g, 0, none⟩ n cap xs (by rw [hsz]; exact r4) holds ⟨h, 0, none⟩ m c news (by rw [hsz]; exact hl) (blk_cells hh) (by omega) (by omega)
        (growslice_fits (by omega) hbt)
      have hg1 := grownCap_ge w (n + m) cap E
      have hg2 := grownCap_le_maxLen w (n + m) cap E hmax
      obtain ⟨e1, e2⟩ := appo_end (E := E) hw (fun p hp => (hK0 p hp).1) (rown_new (sz := sz) (olds := xs) (news := news) z.cells hzs r4 hl hg1 hg2)
      exact ⟨_, _, _, run_appv ho hs hx hr, e1, e2⟩
theorem run_lenO {o : Oper} {a : Act} {x : Operand} {sz n : Nat} {v : Value} {xs : List Value} {Kl : List (Nat × Obj)} (ho : o.op = .call { callee := .builtin .len, args := #[x], argTypes := #[T] }) (hT : P.underlying T = some (.slice E)) (hx : a.eval x = v) (hO : OwnL W0 E sz v n xs Kl) (w : World) : (execOp a.eval o).run P w = .ok (.value (.int .i64 ((n : Nat) : Int))) w := by
  rcases hO with ⟨rfl, _, rfl, _⟩ | ⟨g, cap, cur, rfl, _, _, _⟩
  · exact run_lenL ho hT hx w
  · exact run_lenL ho hT hx w
theorem run_idxQ {o : Oper} {a : Act} {p : Option Addr} {b off n cap k sz : Nat} {x y : Operand} {j : IntKind} (ho : o.op = .indexAddr T x y) (hT : P.underlying T = some (.slice E)) (hsz : (P.info? E).map (·.size) = some sz) (hx : a.eval x = .slice p n cap) (hp : p = some ⟨b, off, none⟩) (hy : a.eval y = .int j ((k : Nat) : Int)) (hk : k < n) (w : World) : (execOp a.eval o).run P w = .ok (.value (.pointer (some ⟨b, off + k * sz, none⟩))) w := by
  subst hp
  exact run_idxL ho hT hsz hx hy hk w
theorem run_callv {o : Oper} {a : Act} {x y : Operand} {f : FuncId} {caps : Array Value} {u : Value} {tt : Array TypeId} (ho : o.op = .call { callee := .value x, args := #[y], argTypes := tt }) (hx : a.eval x = .func (.func f) #[] caps) (hy : a.eval y = u) (hf : ∀ args w, (callFunc f args).run P w = .ok (.enter f args) w) (w : World) : (execOp a.eval o).run P w = .ok (.enter f (#[u] ++ caps)) w := by
  unfold execOp
  simp [ho, resolve, Deferred.ofValue, hx, hy, invoke, hf]
def u8s (l : List UInt8) : List Value := l.map fun b => .int .u8 ((b.toNat : Nat) : Int)
theorem u8s_len (l : List UInt8) : (u8s l).length = l.length := by simp [u8s]
theorem u8s_app (l m : List UInt8) : u8s (l ++ m) = u8s l ++ u8s m := by simp [u8s]
theorem u8s_get {l : List UInt8} {k : Nat} {b : UInt8} (h : l[k]? = some b) : (u8s l)[k]? = some (.int .u8 ((b.toNat : Nat) : Int)) := by simp [u8s, h]
def RowB (cur : Array Value) (l : List UInt8) : Prop := cur.toList.take l.length = u8s l
theorem rowb_set {cur : Array Value} {l : List UInt8} {k : Nat} {b : UInt8} (h : RowB cur l) (hf : l.length ≤ cur.size) (hk : k < l.length) : RowB (cur.setIfInBounds (0 + k * 1) (.int .u8 ((b.toNat : Nat) : Int))) (l.set k b) := by
  unfold RowB at *
  rw [Nat.zero_add, Nat.mul_one, Array.toList_setIfInBounds, List.length_set, List.take_set, h]
  unfold u8s
  rw [List.map_set]
theorem rowb_get {cur : Array Value} {l : List UInt8} {k : Nat} {b : UInt8} (h : RowB cur l) (hb : l[k]? = some b) : cur[0 + k * 1]? = some (.int .u8 ((b.toNat : Nat) : Int)) := by
  have hk := (List.getElem?_eq_some_iff.1 hb).1
  have h1 : (cur.toList.take l.length)[k]? = (u8s l)[k]? := by rw [h]
  rw [List.getElem?_take, if_pos hk, u8s_get hb] at h1
  rw [Nat.zero_add, Nat.mul_one]
  simpa using h1
theorem yb_str {o : Oper} {a : Act} {K : List (Nat × Obj)} {x : Operand} {S : TypeId} {g n cap : Nat} {cur : Array Value} {t : TypeId} {fr : Nat × Nat} {l : List UInt8} (ho : o.op = .convert T S x) (hT : P.underlying T = some (.slice E)) (hE : P.underlying E = some (.int .u8)) (hS : P.underlying S = some .string)
    (hx : a.eval x = .slice (some ⟨g, 0, none⟩) n cap) (hn : l.length = n) (hm : (g, .cells cur t fr) ∈ K) (hR : RowB cur l) :
    ∀ w, KS W0 K w → ∀ K' : Act → World → Prop, (∀ w', Below w.heap.size w w' → K' (a.put o.dst (strV l)) w') → Oper.wp P o a w K' (fun _ _ _ => False) := by
  intro w hw K' hk
  have hc := run_convert_bytes_back (P := P) w T S E ⟨g, 0, none⟩ cap l hT hE hS (fun j hj => by
    rw [addr_add, Nat.zero_add, cell_of_row w g j cur t fr (hw.2 _ hm)]
    have h1 : (cur.toList.take l.length)[j]? = (u8s l)[j]? := by rw [hR]
    rw [List.getElem?_take, if_pos hj, u8s_get (List.getElem?_eq_getElem hj)] at h1
    simpa using h1)
  subst hn
  unfold Oper.wp execOp
  simp only [ho, hx, Sem.run_bind, Sem.run_pure, Result.andThen_ok, hc]
  exact hk w (Below.refl _ _)
theorem RowN.bytes {cur : Array Value} {cap n : Nat} {l : List UInt8} (h : RowN 1 cur cap n (u8s l)) : RowB cur l ∧ l.length = n := by
  obtain ⟨_, _, _, h4, h5⟩ := h
  rw [u8s_len, Nat.mul_one] at h4
  exact ⟨by unfold RowB; rw [h4, ← h5, Nat.mul_one], h4⟩
theorem yb_strO {o : Oper} {a : Act} {K Kl : List (Nat × Obj)} {x : Operand} {S : TypeId} {v : Value} {n : Nat} {l : List UInt8} (ho : o.op = .convert T S x) (hT : P.underlying T = some (.slice E)) (hE : P.underlying E = some (.int .u8)) (hS : P.underlying S = some .string)
    (hx : a.eval x = v) (hO : OwnL W0 E 1 v n (u8s l) Kl) (hsub : ∀ p ∈ Kl, p ∈ K) :
    ∀ w, KS W0 K w → ∀ K' : Act → World → Prop, (∀ w', Below w.heap.size w w' → K' (a.put o.dst (strV l)) w') → Oper.wp P o a w K' (fun _ _ _ => False) := by
  rcases hO with ⟨rfl, h2, rfl, rfl⟩ | ⟨g, cap, cur, rfl, hB, hR, rfl⟩
  · have hl : l = [] := by cases l with | nil => rfl | cons b l => simp [u8s] at h2
    subst hl
    intro w hw K' hk
    have hc := run_convert_bytes_nil (P := P) w T E hT hE 0 0 S hS
    unfold Oper.wp execOp
    simp only [ho, hx, Sem.run_bind, Sem.run_pure, Result.andThen_ok, hc]
    exact hk w (Below.refl _ _)
  · exact yb_str ho hT hE hS hx hR.bytes.2 (hsub _ (.head _)) hR.bytes.1
def ConvB (W0 : Base) (E : TypeId) (K : List (Nat × Obj)) (l : List UInt8) (v : Value) (K' : List (Nat × Obj)) : Prop :=
  ∃ g cap cur fr, v = .slice (some ⟨g, 0, none⟩) l.length cap ∧ W0.B ≤ g ∧ (∀ p ∈ K, p.1 ≠ g) ∧ RowB cur l ∧ l.length ≤ cur.size ∧ cur.size ≤ fr.1 ∧ K' = (g, .cells cur E fr) :: K
theorem conv_bytes {o : Oper} {a : Act} {K : List (Nat × Obj)} {x : Operand} {S : TypeId} {l : List UInt8} (ho : o.op = .convert S T x) (hT : P.underlying T = some (.slice E)) (hE : P.underlying E = some (.int .u8)) (hS : P.underlying S = some .string) (hx : a.eval x = strV l) :
    ∀ w, KS W0 K w → ∃ v K' w', (execOp a.eval o).run P w = .ok (.value v) w' ∧ KS W0 K' w' ∧ ConvB W0 E K l v K' := by
  intro w hw
  have hr := run_bytes_of_string (P := P) w S T E ⟨l.toArray⟩ hS hT hE
  rw [ba_size] at hr
  have hcap := grownCap_ge w l.length 0 E
  have hs : (bytesRow ⟨l.toArray⟩ (grownCap w l.length 0 E)).size = grownCap w l.length 0 E := by
    unfold bytesRow
    simp [ba_size]
    omega
  refine ⟨_, (w.heap.size, .cells (bytesRow ⟨l.toArray⟩ (grownCap w l.length 0 E)) E ((bytesRow ⟨l.toArray⟩ (grownCap w l.length 0 E)).size, (bytesRow ⟨l.toArray⟩ (grownCap w l.length 0 E)).size + 1)) :: K, _, ?_, hw.drew.alloc _, w.heap.size, grownCap w l.length 0 E, _, _, rfl, hw.size, fun p hp e => ?_, ?_, by rw [hs]; exact hcap, Nat.le_refl _, rfl⟩
  · unfold execOp
    unfold strV at hx
    simp only [ho, hx, Sem.run_bind, Sem.run_pure, Result.andThen_ok, hr]
  · have := lt_of_block (hw.2 p hp)
    omega
  · unfold RowB bytesRow u8s
    rw [Array.toList_append, List.take_append_of_le_length (by simp)]
    rw [List.take_of_length_le (by simp)]
    simp
theorem st_at {o : Oper} {a : Act} {K K' : List (Nat × Obj)} {ty t : TypeId} {x y : Operand} {g off : Nat} {cs : Array Value} {fr : Nat × Nat} {v : Value} (ho : o.op = .store ty x y) (hx : a.eval x = .pointer (some ⟨g, off, none⟩)) (hv : a.eval y = v)
    (hm : (g, .cells cs t fr) ∈ K) (hB : W0.B ≤ g) (hi : (P.info? ty).map (·.size) = some 1) (hvc : v.cells = #[v]) (h1 : v.oneCell' = true) (hfit : off < cs.size) (hfr : cs.size ≤ fr.1 ∨ fr.2 = 0)
    (hK : ∀ p ∈ K', p = (g, .cells (cs.setIfInBounds off v) t fr) ∨ (p ∈ K ∧ p.1 ≠ g)) : ∀ w, KS W0 K w → ∃ w', (execOp a.eval o).run P w = .ok .skip w' ∧ KS W0 K' w' := by
  intro w hw
  have hg := hw.2 _ hm
  have hcell : w.cell? ⟨g, off, none⟩ = some cs[off] := by simp [World.cell?, hg, hfit]
  have hfro : w.frozen? ⟨g, off, none⟩ = false := by
    obtain ⟨lo, hi'⟩ := fr
    simp only [World.frozen?, hg, Bool.and_eq_false_iff, decide_eq_false_iff_not]
    simp only at hfr
    omega
  have hst : (store ((⟨g, off, none⟩ : Addr).add 0) v).run P w = .ok () (w.setRow g (cs.setIfInBounds off v)) := by
    rw [addr_add, Nat.add_zero, run_store P w _ v _ h1, hcell]
    simp [hfro, setCell_eq_setRow w g off cs t fr v hg]
  have hr : (storeVar ty ⟨g, off, none⟩ v).run P w = .ok () (w.setRow g (cs.setIfInBounds off v)) := by
    cases hq : P.info? ty with
    | none => simp [hq] at hi
    | some i =>
      have hs : i.size = 1 := by simpa [hq] using hi
      simp [storeVar, Sem.run_bind, Go.sizeOf, typeInfo, hq, hs, hvc, storeCells, hst]
  refine ⟨w.setRow g (cs.setIfInBounds off v), ?_, below_setRow hw.1 hB _, fun p hp => ?_⟩
  · simp only [execOp, ho, hx, hv, Instr.storeAt, Instr.sureAddr, Sem.run_bind, Sem.run_pure, Result.andThen_ok, hr]
  · rcases hK p hp with rfl | ⟨hp, hne⟩
    · exact setRow_heap w g cs _ t _ hg
    · rw [setRow_other w g p.1 _ hne]; exact hw.2 p hp
def Cel (W : World) (b off : Nat) (xs : List Value) : Prop := ∀ (i : Nat) (u : Value), xs[i]? = some u → W.cell? ⟨b, off + i, none⟩ = some u
def SLV (W : World) (p : Option Addr) (xs : List Value) : Prop := xs = [] ∨ ∃ b off, p = some ⟨b, off, none⟩ ∧ b < W.heap.size ∧ Cel W b off xs
theorem Cel.keep {W W' : World} {b off B : Nat} {xs : List Value} (h : Cel W b off xs) (hlt : b < B) (hB : Below B W W') : Cel W' b off xs := fun i u hu => by
  rw [hB.cell (p := ⟨b, off + i, none⟩) hlt]; exact h i u hu
theorem SLV.keep {W W' : World} {p : Option Addr} {xs : List Value} (h : SLV W p xs) (hB : Below W.heap.size W W') : SLV W' p xs := h.imp id fun ⟨b, off, hp, hlt, hc⟩ => ⟨b, off, hp, Nat.lt_of_lt_of_le hlt hB.size, hc.keep hlt hB⟩
def OutV (w w' : World) (E : TypeId) (sz : Nat) (v : Value) (n : Nat) (xs : List Value) : Prop :=
  (n = 0 ∧ xs = [] ∧ v = .slice none 0 0) ∨ ∃ g cap cur, v = .slice (some ⟨g, 0, none⟩) n cap ∧ w.heap.size ≤ g ∧ RowN sz cur cap n xs ∧ w'.heap[g]? = some (.cells cur E (0, 0))
theorem OwnL.out {w : World} {E : TypeId} {sz n : Nat} {v : Value} {xs : List Value} {K Kl : List (Nat × Obj)} {w' : World} (h : OwnL (w : Base) E sz v n xs Kl) (hs : ∀ p ∈ Kl, p ∈ K) (hK : KS w K w') : OutV w w' E sz v n xs := by
  rcases h with ⟨h1, h2, h3, h4⟩ | ⟨g, cap, cur, h1, h2, h3, rfl⟩
  · exact .inl ⟨h1, h2, h3⟩
  · exact .inr ⟨g, cap, cur, h1, h2, h3, hK.2 _ (hs _ (.head _))⟩
theorem RowN.get {sz cap n : Nat} {cur : Array Value} {xs : List Value} (h : RowN sz cur cap n xs) {i : Nat} {u : Value} (hi : xs[i]? = some u) : cur[i]? = some u := by
  rw [← h.2.2.2.2, List.getElem?_take] at hi
  split at hi
  · simpa using hi
  · cases hi
theorem RowN.cel {W : World} {g sz cap n : Nat} {cur : Array Value} {xs : List Value} {fr : Nat × Nat} (h : W.heap[g]? = some (.cells cur E fr)) (hR : RowN sz cur cap n xs) : Cel W g 0 xs := fun i u hu => by
  rw [Nat.zero_add, cell_of_row W g i cur _ fr h]; exact hR.get hu
theorem OutV.own {W : World} {W0 : Base} {E : TypeId} {sz n : Nat} {v : Value} {xs : List Value} {K : List (Nat × Obj)} {w' : World} (h : OutV W w' E sz v n xs) (hW : KS W0 K W) (hb : Below W.heap.size W w') : ∃ Kl, OwnL W0 E sz v n xs Kl ∧ (∀ p ∈ K, ∀ q ∈ Kl, q.1 ≠ p.1) ∧ KS W0 (K ++ Kl) w' := by
  have hK := hW.below hb
  rcases h with ⟨h1, h2, h3⟩ | ⟨g, cap, cur, h1, h2, h3, h4⟩
  · exact ⟨[], .inl ⟨h1, h2, h3, rfl⟩, (fun _ _ _ h => by cases h), by rw [List.append_nil]; exact hK⟩
  · refine ⟨[(g, .cells cur E (0, 0))], .inr ⟨g, cap, cur, h1, Nat.le_trans hW.size h2, h3, rfl⟩, fun p hp q hq e => ?_, hK.1, fun p hp => ?_⟩
    · cases List.mem_singleton.1 hq
      have := lt_of_block (hW.2 p hp)
      have e' : g = p.1 := e
      omega
    · rcases List.mem_append.1 hp with h | h
      · exact hK.2 p h
      · cases List.mem_singleton.1 h; exact h4
theorem OutV.slv {w w' : World} {E : TypeId} {sz n : Nat} {v : Value} {xs : List Value} (h : OutV w w' E sz v n xs) : ∃ p cap, v = .slice p n cap ∧ SLV w' p xs ∧ xs.length = n * sz := by
  rcases h with ⟨rfl, rfl, rfl⟩ | ⟨g, cap, cur, h1, h2, h3, h4⟩
  · exact ⟨none, 0, rfl, .inl rfl, by simp⟩
  · exact ⟨_, cap, h1, .inr ⟨g, 0, rfl, lt_of_block h4, h3.cel h4⟩, h3.2.2.2.1⟩
end
section
variable {P : Program} {ops : Array Oper} {Q : Exit → Act → World → Prop} {W0 : Base}
theorem wpL_g {rest : List Oper} {oi : Oper} {d : Nat} {tm : Array Value} {df : List Deferred} {K : List (Nat × Obj)} {T : Value → Array Value} (G : Value → List (Nat × Obj) → Prop)
    (hdi : oi.dst = some d) (hw : Region.wanted oi (yielded ops tm) = true)
    (hg : ∀ w, KS W0 K w → ∃ v K' w', (execOp (Act.eval ⟨tm, df⟩) oi).run P w = .ok (.value v) w' ∧ KS W0 K' w' ∧ G v K')
    (hT : ∀ v, tm.setIfInBounds d v = T v)
    (h : ∀ v K', G v K' → wpL P ops Q W0 rest ⟨T v, df⟩ K') : wpL P ops Q W0 (oi :: rest) ⟨tm, df⟩ K := by
  refine ⟨fun w hK => ?_⟩
  obtain ⟨v, K', w', hr, hk, hG⟩ := hg w hK
  refine wpList_step fun K2 hK2 => ?_
  rw [if_pos hw]
  unfold Oper.wp
  rw [hr]
  refine hK2 _ _ ?_
  rw [hdi]
  simp only [Act.put]
  rw [hT v]
  exact (h v K' hG).of w' hk
theorem wpL_newg {rest : List Oper} {oi : Oper} {d : Nat} {obi : Obj} {tm : Array Value} {df : List Deferred} {K : List (Nat × Obj)} {T : Nat → Array Value} (mk : Nat → Value)
    (hdi : oi.dst = some d) (hw : Region.wanted oi (yielded ops tm) = true)
    (hai : ∀ w, (execOp (Act.eval ⟨tm, df⟩) oi).run P w = .ok (.value (mk w.heap.size)) (w.alloc obi))
    (hT : ∀ g, (tm.setIfInBounds d (mk g)) = T g)
    (h : ∀ g, W0.B ≤ g → (∀ p ∈ K, p.1 ≠ g) → wpL P ops Q W0 rest ⟨T g, df⟩ ((g, obi) :: K)) : wpL P ops Q W0 (oi :: rest) ⟨tm, df⟩ K := by
  refine ⟨fun w hK => ?_⟩
  refine wpList_step fun K' hK' => ?_
  rw [if_pos hw]
  unfold Oper.wp
  rw [hai w]
  refine hK' _ _ ?_
  rw [hdi]
  simp only [Act.put]
  rw [hT w.heap.size]
  exact (h w.heap.size hK.size (fun p hp => by have := lt_of_block (hK.2 p hp); omega)).of _ (hK.alloc obi)
theorem wpV_nsg {md : Region.Mode} {i : Nat} {oi : Oper} {d : Nat} {obi : Obj} {n : Nat} {listed : Array Bool} {tm : Array Value} {df : List Deferred} {K : List (Nat × Obj)} {T : Nat → Array Value} (mk : Nat → Value)
    (hi : ops[i]? = some oi) (hdi : oi.dst = some d) (hw : Region.wanted oi (yielded ops tm) = true)
    (hr : Region.ready md ops listed = [i])
    (hai : ∀ w, (execOp (Act.eval ⟨tm, df⟩) oi).run P w = .ok (.value (mk w.heap.size)) (w.alloc obi))
    (hT : ∀ g, (tm.setIfInBounds d (mk g)) = T g)
    (h : ∀ g, W0.B ≤ g → (∀ p ∈ K, p.1 ≠ g) → wpV P md ops Q W0 n (listed.setIfInBounds i true) ⟨T g, df⟩ ((g, obi) :: K)) :
    wpV P md ops Q W0 (n + 1) listed ⟨tm, df⟩ K := by
  refine wpV_alloc mk hi hr hw hai (fun g hg hf => ?_)
  rw [hdi]
  simp only [Act.put]
  rw [hT g]
  exact h g hg hf
end
end Tw
/- What the layer iso says, in plain lists of bytes. Nothing of the program. -/
namespace Go.Proofs.YtbceajgipmjmlaaDoor
open Go
def isDig (b : UInt8) : Bool := decide (48 ≤ b.toNat) && decide (b.toNat ≤ 57)
def isCap (b : UInt8) : Bool := decide (65 ≤ b.toNat) && decide (b.toNat ≤ 90)
def isCat (b : UInt8) : Bool := decide (b.toNat = 85) || decide (b.toNat = 74) || decide (b.toNat = 90)
def mayB (i : Nat) (b : UInt8) : Bool := if i < 3 then isCap b else if i = 3 then isCat b else isDig b
def vN (b : UInt8) : Nat := if isDig b = true then b.toNat - 48 else if isCap b = true then 10 + (b.toNat - 65) + (b.toNat - 65 + 9) / 10 else 0
def sumF : Nat → List UInt8 → Nat
  | _, [] => 0
  | i, b :: l => vN b * 2 ^ i + sumF (i + 1) l
def remL (l : List UInt8) : Nat := sumF 0 l % 11
def chkN (l : List UInt8) : Nat := 48 + remL l % 10
def fitF : Nat → List UInt8 → Bool
  | _, [] => true
  | i, b :: l => mayB i b && fitF (i + 1) l
def fitB (l : List UInt8) (n : Nat) : Bool := decide (l.length = n) && fitF 0 l
def agrB (l : List UInt8) : Bool := decide (chkN (l.take 10) = (l.getD 10 0).toNat)
def judgeN (l : List UInt8) : Nat := if fitB l 11 = true then (if agrB l = true then 0 else 31) else 30
def up (b : UInt8) : UInt8 := if 97 ≤ b.toNat ∧ b.toNat ≤ 122 then UInt8.ofNat (b.toNat - 32) else b
def blankB (b : UInt8) : Bool := decide (b.toNat = 32) || decide (b.toNat = 45)
def stripL (l : List UInt8) : List UInt8 := (l.filter (fun b => !blankB b)).map up
theorem vN_le (b : UInt8) : vN b ≤ 38 := by
  unfold vN isDig isCap
  simp only [Bool.and_eq_true, decide_eq_true_eq]
  repeat' split
  all_goals omega
theorem pow_le {k n : Nat} (h : k ≤ n) : 2 ^ k ≤ 2 ^ n := Nat.pow_le_pow_right (by omega) h
theorem vshl_le (b : UInt8) {k : Nat} (h : k ≤ 20) : vN b * 2 ^ k ≤ 39845888 := by
  have h1 := vN_le b
  have h2 := pow_le h
  have h3 := Nat.mul_le_mul h1 h2
  simpa using h3
theorem sumF_app (l m : List UInt8) : ∀ i, sumF i (l ++ m) = sumF i l + sumF (i + l.length) m := by
  induction l with
  | nil => intro i; simp [sumF]
  | cons b l ih => intro i; simp only [List.cons_append, sumF, ih, List.length_cons]; rw [show i + 1 + l.length = i + (l.length + 1) from by omega]; omega
theorem take_snoc {l : List UInt8} {k : Nat} {b : UInt8} (h : l[k]? = some b) : l.take (k + 1) = l.take k ++ [b] := by
  obtain ⟨hk, rfl⟩ := List.getElem?_eq_some_iff.1 h
  rw [List.take_succ_eq_append_getElem hk]
theorem sumF_snoc {l : List UInt8} {k : Nat} {b : UInt8} (h : l[k]? = some b) : sumF 0 (l.take (k + 1)) = sumF 0 (l.take k) + vN b * 2 ^ k := by
  have hk := (List.getElem?_eq_some_iff.1 h).1
  rw [take_snoc h, sumF_app]
  simp only [sumF, List.length_take, Nat.zero_add, Nat.add_zero, Nat.min_eq_left (Nat.le_of_lt hk)]
theorem sumF_le (l : List UInt8) : ∀ k, k ≤ l.length → k ≤ 20 → sumF 0 (l.take k) ≤ 39845888 * k := by
  intro k
  induction k with
  | zero => intro _ _; simp [sumF]
  | succ k ih =>
    intro h1 h2
    have hb : l[k]? = some l[k] := List.getElem?_eq_getElem (by omega)
    rw [sumF_snoc hb]
    have := vshl_le l[k] (k := k) (by omega)
    have := ih (by omega) (by omega)
    omega
theorem chkN_le (l : List UInt8) : 48 ≤ chkN l ∧ chkN l ≤ 57 := by unfold chkN; omega
theorem fitF_drop {l : List UInt8} {k : Nat} {b : UInt8} (h : l[k]? = some b) (i : Nat) : fitF i (l.drop k) = (mayB i b && fitF (i + 1) (l.drop (k + 1))) := by
  obtain ⟨hk, rfl⟩ := List.getElem?_eq_some_iff.1 h
  rw [List.drop_eq_getElem_cons hk]
  rfl
theorem strip_app (l m : List UInt8) : stripL (l ++ m) = stripL l ++ stripL m := by unfold stripL; rw [List.filter_append, List.map_append]
theorem strip_one (b : UInt8) : stripL [b] = if blankB b = true then [] else [up b] := by
  unfold stripL
  cases h : blankB b <;> simp [List.filter_cons, h]
theorem strip_len (l : List UInt8) : (stripL l).length ≤ l.length := by unfold stripL; rw [List.length_map]; exact List.length_filter_le _ _
end Go.Proofs.YtbceajgipmjmlaaDoor
namespace Go.Proofs.YtbceajgipmjmlaaDoor
open Go Go.RowKit Tw
theorem val_is {b : UInt8} (n : Nat) (c : Bool) (h : n = vN b) (h2 : c = (isDig b || isCap b)) : Value.tuple #[.int .i64 ((n : Nat) : Int), .bool c] = .tuple #[.int .i64 ((vN b : Nat) : Int), .bool (isDig b || isCap b)] := by rw [h, h2]
theorem int_is {k : IntKind} {m n : Nat} (h : m = n) : Ending.returned (.int k ((m : Nat) : Int)) = .returned (.int k ((n : Nat) : Int)) := by rw [h]
theorem bool_is {b c : Bool} (h : b = c) : Ending.returned (.bool b) = .returned (.bool c) := by rw [h]
theorem str_is {l m : List UInt8} (h : l = m) : Ending.returned (strV l) = .returned (strV m) := by rw [h]
set_option maxRecDepth 100000 in
set_option maxHeartbeats 4000000 in
theorem Value_any (b : UInt8) (w : World) : Calls Tryd.prog 14 #[.int .u8 ((b.toNat : Nat) : Int)] w fun e w' => e = .returned (.tuple #[.int .i64 (((vN b) : Nat) : Int), .bool (isDig b || isCap b)]) ∧ Below w.heap.size w w' := by
  have lb := b.toNat_lt
  go_enter Tryd.func14, Tryd.ntmps14
  refine wp_seq ?_
  refine wp_region_L (W0 := w) [] (KS.start w) ?_
  refine lm (v := .int .i64 0) rfl rfl ?_
  refine lm (v := .bool false) rfl rfl ?_
  refine wpL_done (fun W1 hW1 => ?_)
  refine (show Code.wp _ _ _ _ _ from ?_)
  refine wp_seq ?_
  refine wp_block ?_
  refine wp_seq ?_
  refine wp_region_L (W0 := w) [] (hW1) ?_
  refine lm (v := .int .u8 ((b.toNat : Nat) : Int)) rfl rfl ?_
  refine lp (v := .bool (!(decide (b.toNat < 48)))) rfl rfl (run_bin rfl (vx := (.int .u8 ((48 : Nat) : Int))) (vy := (.int .u8 ((b.toNat : Nat) : Int))) (by kernel_rfl) (by kernel_rfl) fun w => bn_leq rfl w) ?_
  refine lm (v := .bool (!(decide (b.toNat < 48)))) rfl rfl ?_
  cases hd1 : (decide (b.toNat < 48)) with
  | false =>
    have h1 : ¬ (b.toNat < 48) := of_decide_eq_false hd1
    clear hd1
    refine lm (v := .int .u8 ((b.toNat : Nat) : Int)) rfl rfl ?_
    refine lp (v := .bool (!(decide (57 < b.toNat)))) rfl rfl (run_bin rfl (vx := (.int .u8 ((b.toNat : Nat) : Int))) (vy := (.int .u8 ((57 : Nat) : Int))) (by kernel_rfl) (by kernel_rfl) fun w => bn_leq rfl w) ?_
    refine lm (v := .bool (!(decide (57 < b.toNat)))) rfl rfl ?_
    refine lm (v := .bool (!(decide (57 < b.toNat)))) rfl rfl ?_
    refine wpL_done (fun W2 hW2 => ?_)
    refine (show Code.wp _ _ _ _ _ from ?_)
    cases hd2 : (decide (57 < b.toNat)) with
    | false =>
      have h2 : ¬ (57 < b.toNat) := of_decide_eq_false hd2
      clear hd2
      refine wp_cond_true rfl ?_
      refine wp_seq ?_
      refine wp_region_L (W0 := w) [] (hW2) ?_
      refine lm (v := .int .u8 ((b.toNat : Nat) : Int)) rfl rfl ?_
      refine lp (v := .int .u8 (((b.toNat - 48) : Nat) : Int)) rfl rfl (run_bin rfl (vx := (.int .u8 ((b.toNat : Nat) : Int))) (vy := (.int .u8 ((48 : Nat) : Int))) (by kernel_rfl) (by kernel_rfl) fun w => bn_sub (z := (b.toNat - 48)) rfl (by omega) (wr_u8 (by omega)) w) ?_
      refine lp (v := .int .i64 (((b.toNat - 48) : Nat) : Int)) rfl rfl (run_conv rfl (vx := (.int .u8 (((b.toNat - 48) : Nat) : Int))) (by kernel_rfl) fun w => cv_int Tryd.underlying5 Tryd.underlying3 (wr_i64 (by omega)) w) ?_
      refine lm (v := .int .i64 (((b.toNat - 48) : Nat) : Int)) rfl rfl ?_
      refine lm (v := .bool true) rfl rfl ?_
      refine wpL_done (fun W3 hW3 => ?_)
      refine (show Code.wp _ _ _ _ _ from ?_)
      refine wp_ret ?_
      try simp only [inBlock_ret, then_ret]
      refine bodyPost_ret (v := .tuple #[.int .i64 (((b.toNat - 48) : Nat) : Int), .bool true]) ?_ rfl ?_
      · kernel_rfl
      · exact ⟨(congrArg Ending.returned (val_is (b.toNat - 48) true (by unfold vN isDig isCap; simp only [Bool.and_eq_true, decide_eq_true_eq]; (repeat' split) <;> omega) (by unfold isDig isCap; simp; omega))), hW3.1⟩
    | true =>
      have h2 : 57 < b.toNat := of_decide_eq_true hd2
      clear hd2
      refine wp_cond_false rfl ?_
      refine wp_seq ?_
      refine wp_region_L (W0 := w) [] (hW2) ?_
      refine lm (v := .int .u8 ((b.toNat : Nat) : Int)) rfl rfl ?_
      refine lp (v := .bool (!(decide (b.toNat < 65)))) rfl rfl (run_bin rfl (vx := (.int .u8 ((65 : Nat) : Int))) (vy := (.int .u8 ((b.toNat : Nat) : Int))) (by kernel_rfl) (by kernel_rfl) fun w => bn_leq rfl w) ?_
      refine lm (v := .bool (!(decide (b.toNat < 65)))) rfl rfl ?_
      cases hd3 : (decide (b.toNat < 65)) with
      | false =>
        have h3 : ¬ (b.toNat < 65) := of_decide_eq_false hd3
        clear hd3
        refine lm (v := .int .u8 ((b.toNat : Nat) : Int)) rfl rfl ?_
        refine lp (v := .bool (!(decide (90 < b.toNat)))) rfl rfl (run_bin rfl (vx := (.int .u8 ((b.toNat : Nat) : Int))) (vy := (.int .u8 ((90 : Nat) : Int))) (by kernel_rfl) (by kernel_rfl) fun w => bn_leq rfl w) ?_
        refine lm (v := .bool (!(decide (90 < b.toNat)))) rfl rfl ?_
        refine lm (v := .bool (!(decide (90 < b.toNat)))) rfl rfl ?_
        refine wpL_done (fun W4 hW4 => ?_)
        refine (show Code.wp _ _ _ _ _ from ?_)
        cases hd4 : (decide (90 < b.toNat)) with
        | false =>
          have h4 : ¬ (90 < b.toNat) := of_decide_eq_false hd4
          clear hd4
          refine wp_cond_true rfl ?_
          refine wp_seq ?_
          refine wp_region_L (W0 := w) [] (hW4) ?_
          refine lm (v := .int .u8 ((b.toNat : Nat) : Int)) rfl rfl ?_
          refine lp (v := .int .u8 (((b.toNat - 65) : Nat) : Int)) rfl rfl (run_bin rfl (vx := (.int .u8 ((b.toNat : Nat) : Int))) (vy := (.int .u8 ((65 : Nat) : Int))) (by kernel_rfl) (by kernel_rfl) fun w => bn_sub (z := (b.toNat - 65)) rfl (by omega) (wr_u8 (by omega)) w) ?_
          refine lp (v := .int .i64 (((b.toNat - 65) : Nat) : Int)) rfl rfl (run_conv rfl (vx := (.int .u8 (((b.toNat - 65) : Nat) : Int))) (by kernel_rfl) fun w => cv_int Tryd.underlying5 Tryd.underlying3 (wr_i64 (by omega)) w) ?_
          refine lm (v := .int .i64 (((b.toNat - 65) : Nat) : Int)) rfl rfl ?_
          refine wpL_done (fun W5 hW5 => ?_)
          refine (show Code.wp _ _ _ _ _ from ?_)
          refine wp_seq ?_
          refine wp_region_L (W0 := w) [] (hW5) ?_
          refine lm (v := .int .i64 (((b.toNat - 65) : Nat) : Int)) rfl rfl ?_
          refine lp (v := .int .i64 (((10 + (b.toNat - 65)) : Nat) : Int)) rfl rfl (run_bin rfl (vx := (.int .i64 ((10 : Nat) : Int))) (vy := (.int .i64 (((b.toNat - 65) : Nat) : Int))) (by kernel_rfl) (by kernel_rfl) fun w => bn_add (z := (10 + (b.toNat - 65))) rfl (wr_i64 (by omega)) w) ?_
          refine lm (v := .int .i64 (((b.toNat - 65) : Nat) : Int)) rfl rfl ?_
          refine lp (v := .int .i64 ((((b.toNat - 65) + 9) : Nat) : Int)) rfl rfl (run_bin rfl (vx := (.int .i64 (((b.toNat - 65) : Nat) : Int))) (vy := (.int .i64 ((9 : Nat) : Int))) (by kernel_rfl) (by kernel_rfl) fun w => bn_add (z := ((b.toNat - 65) + 9)) rfl (wr_i64 (by omega)) w) ?_
          refine lp (v := .int .i64 (((((b.toNat - 65) + 9) / 10) : Nat) : Int)) rfl rfl (run_bin rfl (vx := (.int .i64 ((((b.toNat - 65) + 9) : Nat) : Int))) (vy := (.int .i64 ((10 : Nat) : Int))) (by kernel_rfl) (by kernel_rfl) fun w => bn_quo (z := (((b.toNat - 65) + 9) / 10)) rfl (by omega) (wr_i64 (by omega)) w) ?_
          refine lp (v := .int .i64 ((((10 + (b.toNat - 65)) + (((b.toNat - 65) + 9) / 10)) : Nat) : Int)) rfl rfl (run_bin rfl (vx := (.int .i64 (((10 + (b.toNat - 65)) : Nat) : Int))) (vy := (.int .i64 (((((b.toNat - 65) + 9) / 10) : Nat) : Int))) (by kernel_rfl) (by kernel_rfl) fun w => bn_add (z := ((10 + (b.toNat - 65)) + (((b.toNat - 65) + 9) / 10))) rfl (wr_i64 (by omega)) w) ?_
          refine lm (v := .int .i64 ((((10 + (b.toNat - 65)) + (((b.toNat - 65) + 9) / 10)) : Nat) : Int)) rfl rfl ?_
          refine lm (v := .bool true) rfl rfl ?_
          refine wpL_done (fun W6 hW6 => ?_)
          refine (show Code.wp _ _ _ _ _ from ?_)
          refine wp_ret ?_
          try simp only [inBlock_ret, then_ret]
          refine bodyPost_ret (v := .tuple #[.int .i64 ((((10 + (b.toNat - 65)) + (((b.toNat - 65) + 9) / 10)) : Nat) : Int), .bool true]) ?_ rfl ?_
          · kernel_rfl
          · exact ⟨(congrArg Ending.returned (val_is ((10 + (b.toNat - 65)) + (((b.toNat - 65) + 9) / 10)) true (by unfold vN isDig isCap; simp only [Bool.and_eq_true, decide_eq_true_eq]; (repeat' split) <;> omega) (by unfold isDig isCap; simp; omega))), hW6.1⟩
        | true =>
          have h4 : 90 < b.toNat := of_decide_eq_true hd4
          clear hd4
          refine wp_cond_false rfl ?_
          refine wp_skip ?_
          refine (show Code.wp _ _ _ _ _ from ?_)
          refine wp_seq ?_
          refine wp_region_L (W0 := w) [] (hW4) ?_
          refine lm (v := .int .i64 0) rfl rfl ?_
          refine lm (v := .bool false) rfl rfl ?_
          refine wpL_done (fun W7 hW7 => ?_)
          refine (show Code.wp _ _ _ _ _ from ?_)
          refine wp_ret ?_
          try simp only [inBlock_ret, then_ret]
          refine bodyPost_ret (v := .tuple #[.int .i64 0, .bool false]) ?_ rfl ?_
          · kernel_rfl
          · exact ⟨(congrArg Ending.returned (val_is 0 false (by unfold vN isDig isCap; simp only [Bool.and_eq_true, decide_eq_true_eq]; (repeat' split) <;> omega) (by unfold isDig isCap; simp; omega))), hW7.1⟩
      | true =>
        have h3 : b.toNat < 65 := of_decide_eq_true hd3
        clear hd3
        refine ln rfl ?_
        refine ln rfl ?_
        refine lm (v := .bool false) rfl rfl ?_
        refine lm (v := .bool false) rfl rfl ?_
        refine wpL_done (fun W8 hW8 => ?_)
        refine (show Code.wp _ _ _ _ _ from ?_)
        refine wp_cond_false rfl ?_
        refine wp_skip ?_
        refine (show Code.wp _ _ _ _ _ from ?_)
        refine wp_seq ?_
        refine wp_region_L (W0 := w) [] (hW8) ?_
        refine lm (v := .int .i64 0) rfl rfl ?_
        refine lm (v := .bool false) rfl rfl ?_
        refine wpL_done (fun W9 hW9 => ?_)
        refine (show Code.wp _ _ _ _ _ from ?_)
        refine wp_ret ?_
        try simp only [inBlock_ret, then_ret]
        refine bodyPost_ret (v := .tuple #[.int .i64 0, .bool false]) ?_ rfl ?_
        · kernel_rfl
        · exact ⟨(congrArg Ending.returned (val_is 0 false (by unfold vN isDig isCap; simp only [Bool.and_eq_true, decide_eq_true_eq]; (repeat' split) <;> omega) (by unfold isDig isCap; simp; omega))), hW9.1⟩
  | true =>
    have h1 : b.toNat < 48 := of_decide_eq_true hd1
    clear hd1
    refine ln rfl ?_
    refine ln rfl ?_
    refine lm (v := .bool false) rfl rfl ?_
    refine lm (v := .bool false) rfl rfl ?_
    refine wpL_done (fun W10 hW10 => ?_)
    refine (show Code.wp _ _ _ _ _ from ?_)
    refine wp_cond_false rfl ?_
    refine wp_seq ?_
    refine wp_region_L (W0 := w) [] (hW10) ?_
    refine lm (v := .int .u8 ((b.toNat : Nat) : Int)) rfl rfl ?_
    refine lp (v := .bool (!(decide (b.toNat < 65)))) rfl rfl (run_bin rfl (vx := (.int .u8 ((65 : Nat) : Int))) (vy := (.int .u8 ((b.toNat : Nat) : Int))) (by kernel_rfl) (by kernel_rfl) fun w => bn_leq rfl w) ?_
    refine lm (v := .bool (!(decide (b.toNat < 65)))) rfl rfl ?_
    cases hd5 : (decide (b.toNat < 65)) with
    | false =>
      have h5 : ¬ (b.toNat < 65) := of_decide_eq_false hd5
      clear hd5
      refine lm (v := .int .u8 ((b.toNat : Nat) : Int)) rfl rfl ?_
      refine lp (v := .bool (!(decide (90 < b.toNat)))) rfl rfl (run_bin rfl (vx := (.int .u8 ((b.toNat : Nat) : Int))) (vy := (.int .u8 ((90 : Nat) : Int))) (by kernel_rfl) (by kernel_rfl) fun w => bn_leq rfl w) ?_
      refine lm (v := .bool (!(decide (90 < b.toNat)))) rfl rfl ?_
      refine lm (v := .bool (!(decide (90 < b.toNat)))) rfl rfl ?_
      refine wpL_done (fun W11 hW11 => ?_)
      refine (show Code.wp _ _ _ _ _ from ?_)
      cases hd6 : (decide (90 < b.toNat)) with
      | false =>
        have h6 : ¬ (90 < b.toNat) := of_decide_eq_false hd6
        clear hd6
        refine wp_cond_true rfl ?_
        refine wp_seq ?_
        refine wp_region_L (W0 := w) [] (hW11) ?_
        refine lm (v := .int .u8 ((b.toNat : Nat) : Int)) rfl rfl ?_
        refine lp (v := .int .u8 (((b.toNat - 65) : Nat) : Int)) rfl rfl (run_bin rfl (vx := (.int .u8 ((b.toNat : Nat) : Int))) (vy := (.int .u8 ((65 : Nat) : Int))) (by kernel_rfl) (by kernel_rfl) fun w => bn_sub (z := (b.toNat - 65)) rfl (by omega) (wr_u8 (by omega)) w) ?_
        refine lp (v := .int .i64 (((b.toNat - 65) : Nat) : Int)) rfl rfl (run_conv rfl (vx := (.int .u8 (((b.toNat - 65) : Nat) : Int))) (by kernel_rfl) fun w => cv_int Tryd.underlying5 Tryd.underlying3 (wr_i64 (by omega)) w) ?_
        refine lm (v := .int .i64 (((b.toNat - 65) : Nat) : Int)) rfl rfl ?_
        refine wpL_done (fun W12 hW12 => ?_)
        refine (show Code.wp _ _ _ _ _ from ?_)
        refine wp_seq ?_
        refine wp_region_L (W0 := w) [] (hW12) ?_
        refine lm (v := .int .i64 (((b.toNat - 65) : Nat) : Int)) rfl rfl ?_
        refine lp (v := .int .i64 (((10 + (b.toNat - 65)) : Nat) : Int)) rfl rfl (run_bin rfl (vx := (.int .i64 ((10 : Nat) : Int))) (vy := (.int .i64 (((b.toNat - 65) : Nat) : Int))) (by kernel_rfl) (by kernel_rfl) fun w => bn_add (z := (10 + (b.toNat - 65))) rfl (wr_i64 (by omega)) w) ?_
        refine lm (v := .int .i64 (((b.toNat - 65) : Nat) : Int)) rfl rfl ?_
        refine lp (v := .int .i64 ((((b.toNat - 65) + 9) : Nat) : Int)) rfl rfl (run_bin rfl (vx := (.int .i64 (((b.toNat - 65) : Nat) : Int))) (vy := (.int .i64 ((9 : Nat) : Int))) (by kernel_rfl) (by kernel_rfl) fun w => bn_add (z := ((b.toNat - 65) + 9)) rfl (wr_i64 (by omega)) w) ?_
        refine lp (v := .int .i64 (((((b.toNat - 65) + 9) / 10) : Nat) : Int)) rfl rfl (run_bin rfl (vx := (.int .i64 ((((b.toNat - 65) + 9) : Nat) : Int))) (vy := (.int .i64 ((10 : Nat) : Int))) (by kernel_rfl) (by kernel_rfl) fun w => bn_quo (z := (((b.toNat - 65) + 9) / 10)) rfl (by omega) (wr_i64 (by omega)) w) ?_
        refine lp (v := .int .i64 ((((10 + (b.toNat - 65)) + (((b.toNat - 65) + 9) / 10)) : Nat) : Int)) rfl rfl (run_bin rfl (vx := (.int .i64 (((10 + (b.toNat - 65)) : Nat) : Int))) (vy := (.int .i64 (((((b.toNat - 65) + 9) / 10) : Nat) : Int))) (by kernel_rfl) (by kernel_rfl) fun w => bn_add (z := ((10 + (b.toNat - 65)) + (((b.toNat - 65) + 9) / 10))) rfl (wr_i64 (by omega)) w) ?_
        refine lm (v := .int .i64 ((((10 + (b.toNat - 65)) + (((b.toNat - 65) + 9) / 10)) : Nat) : Int)) rfl rfl ?_
        refine lm (v := .bool true) rfl rfl ?_
        refine wpL_done (fun W13 hW13 => ?_)
        refine (show Code.wp _ _ _ _ _ from ?_)
        refine wp_ret ?_
        try simp only [inBlock_ret, then_ret]
        refine bodyPost_ret (v := .tuple #[.int .i64 ((((10 + (b.toNat - 65)) + (((b.toNat - 65) + 9) / 10)) : Nat) : Int), .bool true]) ?_ rfl ?_
        · kernel_rfl
        · exact ⟨(congrArg Ending.returned (val_is ((10 + (b.toNat - 65)) + (((b.toNat - 65) + 9) / 10)) true (by unfold vN isDig isCap; simp only [Bool.and_eq_true, decide_eq_true_eq]; (repeat' split) <;> omega) (by unfold isDig isCap; simp; omega))), hW13.1⟩
      | true =>
        have h6 : 90 < b.toNat := of_decide_eq_true hd6
        clear hd6
        refine wp_cond_false rfl ?_
        refine wp_skip ?_
        refine (show Code.wp _ _ _ _ _ from ?_)
        refine wp_seq ?_
        refine wp_region_L (W0 := w) [] (hW11) ?_
        refine lm (v := .int .i64 0) rfl rfl ?_
        refine lm (v := .bool false) rfl rfl ?_
        refine wpL_done (fun W14 hW14 => ?_)
        refine (show Code.wp _ _ _ _ _ from ?_)
        refine wp_ret ?_
        try simp only [inBlock_ret, then_ret]
        refine bodyPost_ret (v := .tuple #[.int .i64 0, .bool false]) ?_ rfl ?_
        · kernel_rfl
        · exact ⟨(congrArg Ending.returned (val_is 0 false (by unfold vN isDig isCap; simp only [Bool.and_eq_true, decide_eq_true_eq]; (repeat' split) <;> omega) (by unfold isDig isCap; simp; omega))), hW14.1⟩
    | true =>
      have h5 : b.toNat < 65 := of_decide_eq_true hd5
      clear hd5
      refine ln rfl ?_
      refine ln rfl ?_
      refine lm (v := .bool false) rfl rfl ?_
      refine lm (v := .bool false) rfl rfl ?_
      refine wpL_done (fun W15 hW15 => ?_)
      refine (show Code.wp _ _ _ _ _ from ?_)
      refine wp_cond_false rfl ?_
      refine wp_skip ?_
      refine (show Code.wp _ _ _ _ _ from ?_)
      refine wp_seq ?_
      refine wp_region_L (W0 := w) [] (hW15) ?_
      refine lm (v := .int .i64 0) rfl rfl ?_
      refine lm (v := .bool false) rfl rfl ?_
      refine wpL_done (fun W16 hW16 => ?_)
      refine (show Code.wp _ _ _ _ _ from ?_)
      refine wp_ret ?_
      try simp only [inBlock_ret, then_ret]
      refine bodyPost_ret (v := .tuple #[.int .i64 0, .bool false]) ?_ rfl ?_
      · kernel_rfl
      · exact ⟨(congrArg Ending.returned (val_is 0 false (by unfold vN isDig isCap; simp only [Bool.and_eq_true, decide_eq_true_eq]; (repeat' split) <;> omega) (by unfold isDig isCap; simp; omega))), hW16.1⟩
set_option maxRecDepth 100000 in
set_option maxHeartbeats 4000000 in
theorem checkDigit_any (l : List UInt8) (hl : l.length ≤ 20) (w : World) : Calls Tryd.prog 46 #[strV l] w fun e w' => e = .returned (.int .u8 (((chkN l) : Nat) : Int)) ∧ Below w.heap.size w w' := by
  go_enter Tryd.func46, Tryd.ntmps46
  refine wp_seq ?_
  refine wp_region_L (W0 := w) [] (KS.start w) ?_
  refine lm (v := .int .u8 0) rfl rfl ?_
  refine wpL_done (fun W1 hW1 => ?_)
  refine (show Code.wp _ _ _ _ _ from ?_)
  refine wp_seq ?_
  refine wp_region_L (W0 := w) [] (hW1) ?_
  refine lm (v := .int .i64 0) rfl rfl ?_
  refine wpL_done (fun W2 hW2 => ?_)
  refine (show Code.wp _ _ _ _ _ from ?_)
  refine wp_seq ?_
  refine wp_seq ?_
  refine wp_region_L (W0 := w) [] (hW2) ?_
  refine lm (v := strV l) rfl rfl ?_
  refine lp (v := .int .i64 ((l.length : Nat) : Int)) rfl rfl (run_lenS (l := l) rfl Tryd.underlying9 (by kernel_rfl)) ?_
  refine lm (v := .int .i64 0) rfl rfl ?_
  refine wpL_done (fun W3 hW3 => ?_)
  refine (show Code.wp _ _ _ _ _ from ?_)
  refine wp_block ?_
  have hsl := sumF_le l
  go_loopw [3, 9] (fun u3 u9 wr => ∃ (k : Nat), (k ≤ l.length) ∧ u3 = .int .i64 (((sumF 0 (l.take k)) : Nat) : Int) ∧ u9 = .int .i64 ((k : Nat) : Int) ∧ KS w [] wr) (fun _ u9 _ => l.length - (intOf u9).toNat)
  case atStart => exact ⟨0, (Nat.zero_le _), rfl, rfl, hW3⟩
  case round =>
    obtain ⟨k, hk, rfl, rfl, hL4⟩ := hrel
    have hs1 := hsl k hk (by omega)
    refine wp_seq ?_
    refine wp_region_L (W0 := w) [] (hL4) ?_
    refine lp (v := .bool (decide (k < l.length))) rfl rfl (run_bin rfl (vx := (.int .i64 ((k : Nat) : Int))) (vy := (.int .i64 ((l.length : Nat) : Int))) (by kernel_rfl) (by kernel_rfl) fun w => bn_lss rfl w) ?_
    refine wpL_done (fun W5 hW5 => ?_)
    refine (show Code.wp _ _ _ _ _ from ?_)
    refine wp_seq ?_
    cases hd1 : (decide (k < l.length)) with
    | false =>
      have h1 : ¬ (k < l.length) := of_decide_eq_false hd1
      clear hd1
      have hlk : l.take k = l := List.take_of_length_le (by omega)
      refine wp_cond_false rfl ?_
      refine wp_exit ?_
      refine (show Code.wp _ _ _ _ _ from ?_)
      refine wp_seq ?_
      refine wp_region_L (W0 := w) [] (hW5) ?_
      refine lm (v := .int .i64 (((sumF 0 (l.take k)) : Nat) : Int)) rfl rfl ?_
      refine lp (v := .int .i64 ((((sumF 0 (l.take k)) % 11) : Nat) : Int)) rfl rfl (run_bin rfl (vx := (.int .i64 (((sumF 0 (l.take k)) : Nat) : Int))) (vy := (.int .i64 ((11 : Nat) : Int))) (by kernel_rfl) (by kernel_rfl) fun w => bn_rem (z := ((sumF 0 (l.take k)) % 11)) rfl (by omega) w) ?_
      refine lp (v := .int .i64 (((((sumF 0 (l.take k)) % 11) % 10) : Nat) : Int)) rfl rfl (run_bin rfl (vx := (.int .i64 ((((sumF 0 (l.take k)) % 11) : Nat) : Int))) (vy := (.int .i64 ((10 : Nat) : Int))) (by kernel_rfl) (by kernel_rfl) fun w => bn_rem (z := (((sumF 0 (l.take k)) % 11) % 10)) rfl (by omega) w) ?_
      refine lp (v := .int .u8 (((((sumF 0 (l.take k)) % 11) % 10) : Nat) : Int)) rfl rfl (run_conv rfl (vx := (.int .i64 (((((sumF 0 (l.take k)) % 11) % 10) : Nat) : Int))) (by kernel_rfl) fun w => cv_int Tryd.underlying3 Tryd.underlying5 (wr_u8 (by omega)) w) ?_
      refine lp (v := .int .u8 (((48 + (((sumF 0 (l.take k)) % 11) % 10)) : Nat) : Int)) rfl rfl (run_bin rfl (vx := (.int .u8 ((48 : Nat) : Int))) (vy := (.int .u8 (((((sumF 0 (l.take k)) % 11) % 10) : Nat) : Int))) (by kernel_rfl) (by kernel_rfl) fun w => bn_add (z := (48 + (((sumF 0 (l.take k)) % 11) % 10))) rfl (wr_u8 (by omega)) w) ?_
      refine lm (v := .int .u8 (((48 + (((sumF 0 (l.take k)) % 11) % 10)) : Nat) : Int)) rfl rfl ?_
      refine wpL_done (fun W6 hW6 => ?_)
      refine (show Code.wp _ _ _ _ _ from ?_)
      refine wp_ret ?_
      try simp only [inBlock_ret, then_ret]
      refine bodyPost_ret (v := .int .u8 (((48 + (((sumF 0 (l.take k)) % 11) % 10)) : Nat) : Int)) ?_ rfl ?_
      · kernel_rfl
      · exact ⟨(int_is (by unfold chkN remL; rw [hlk])), hW6.1⟩
    | true =>
      have h1 : k < l.length := of_decide_eq_true hd1
      clear hd1
      have hpw := vshl_le
      refine wp_cond_true rfl ?_
      refine wp_skip ?_
      refine (show Code.wp _ _ _ _ _ from ?_)
      refine wp_seq ?_
      refine wp_block ?_
      refine wp_seq ?_
      refine wp_region_L (W0 := w) [] (hW5) ?_
      refine lm (v := .int .i64 ((k : Nat) : Int)) rfl rfl ?_
      refine lm (v := .int .i64 ((k : Nat) : Int)) rfl rfl ?_
      refine wpL_done (fun W7 hW7 => ?_)
      refine (show Code.wp _ _ _ _ _ from ?_)
      refine wp_seq ?_
      refine wp_region_L (W0 := w) [] (hW7) ?_
      refine lm (v := strV l) rfl rfl ?_
      refine lm (v := .int .i64 ((k : Nat) : Int)) rfl rfl ?_
      obtain ⟨b1, hb1⟩ : ∃ b, l[k]? = some b := ⟨_, List.getElem?_eq_getElem (by omega)⟩
      have lb1 := b1.toNat_lt
      refine lp (v := .int .u8 ((b1.toNat : Nat) : Int)) rfl rfl (run_idxS (j := .i64) (l := l) (k := k) (b := b1) rfl Tryd.underlying9 (by kernel_rfl) (by kernel_rfl) hb1) ?_
      refine lv (v := .tuple #[.int .i64 (((vN b1) : Nat) : Int), .bool (isDig b1 || isCap b1)]) rfl rfl (yb_call (f := 14) (args := #[.int .u8 ((b1.toNat : Nat) : Int)]) (fun _ => by kernel_rfl) fun W hW => Value_any b1 W) ?_
      refine lm (v := .tuple #[.int .i64 (((vN b1) : Nat) : Int), .bool (isDig b1 || isCap b1)]) rfl rfl ?_
      refine lm (v := .int .i64 (((vN b1) : Nat) : Int)) rfl rfl ?_
      refine lm (v := .bool (isDig b1 || isCap b1)) rfl rfl ?_
      refine lm (v := .int .i64 (((vN b1) : Nat) : Int)) rfl rfl ?_
      refine lm (v := .bool (isDig b1 || isCap b1)) rfl rfl ?_
      refine wpL_done (fun W8 hW8 => ?_)
      refine (show Code.wp _ _ _ _ _ from ?_)
      refine wp_region_L (W0 := w) [] (hW8) ?_
      refine lm (v := .int .i64 (((sumF 0 (l.take k)) : Nat) : Int)) rfl rfl ?_
      refine lm (v := .int .i64 (((vN b1) : Nat) : Int)) rfl rfl ?_
      refine lm (v := .int .i64 ((k : Nat) : Int)) rfl rfl ?_
      refine lp (v := .int .i64 ((((vN b1) * 2 ^ k) : Nat) : Int)) rfl rfl (run_bin rfl (vx := (.int .i64 (((vN b1) : Nat) : Int))) (vy := (.int .i64 ((k : Nat) : Int))) (by kernel_rfl) (by kernel_rfl) fun w => bn_shl (z := ((vN b1) * 2 ^ k)) rfl (by first | omega | decide | (simp only [IntKind.bits]; omega)) (wr_i64 (by have := vshl_le b1 (k := k) (by omega); omega)) w) ?_
      have hvs := vshl_le b1 (k := k) (by omega)
      have hs2 := hsl (k + 1) (by omega) (by omega)
      refine lp (v := .int .i64 (((sumF 0 (l.take (k + 1))) : Nat) : Int)) rfl rfl (run_bin rfl (vx := (.int .i64 (((sumF 0 (l.take k)) : Nat) : Int))) (vy := (.int .i64 ((((vN b1) * 2 ^ k) : Nat) : Int))) (by kernel_rfl) (by kernel_rfl) fun w => bn_add (z := sumF 0 (l.take (k + 1))) (sumF_snoc hb1).symm (wr_i64 (by omega)) w) ?_
      refine lm (v := .int .i64 (((sumF 0 (l.take (k + 1))) : Nat) : Int)) rfl rfl ?_
      refine wpL_done (fun W9 hW9 => ?_)
      refine (show Code.wp _ _ _ _ _ from ?_)
      refine wp_region_L (W0 := w) [] (hW9) ?_
      refine lp (v := .int .i64 (((k + 1) : Nat) : Int)) rfl rfl (run_bin rfl (vx := (.int .i64 ((k : Nat) : Int))) (vy := (.int .i64 ((1 : Nat) : Int))) (by kernel_rfl) (by kernel_rfl) fun w => bn_add (z := (k + 1)) rfl (wr_i64 (by omega)) w) ?_
      refine lm (v := .int .i64 (((k + 1) : Nat) : Int)) rfl rfl ?_
      refine wpL_done (fun W10 hW10 => ?_)
      go_roundw
      case rel =>
        repeat apply Exists.intro
        exact ⟨⟨k + 1, (by omega), rfl, rfl, hW10⟩, rfl⟩
      case measure => (show l.length - (intOf (.int .i64 (((k + 1) : Nat) : Int))).toNat < l.length - (intOf (.int .i64 ((k : Nat) : Int))).toNat); simp only [intOf]; omega
end Go.Proofs.YtbceajgipmjmlaaDoor
namespace Go.Proofs.YtbceajgipmjmlaaDoor
open Go Go.RowKit Tw
theorem fit_len {l : List UInt8} {n : Nat} (h : fitB l n = true) : l.length = n := by unfold fitB at h; simp at h; exact h.1
theorem fit_fit {l : List UInt8} {n : Nat} (h : fitB l n = true) : fitF 0 l = true := by unfold fitB at h; simp at h; exact h.2
def rangeV (a b : Nat) : Value := .func (.func 55) #[] #[.pointer (some ⟨a, 0, none⟩), .pointer (some ⟨b, 0, none⟩)]
def catV : Value := .func (.func 56) #[] #[]
def placeAt (a b c d k : Nat) : Value := if k < 3 then rangeV a b else if k = 3 then catV else rangeV c d
def placesV (a b c d : Nat) : Array Value := #[rangeV a b, rangeV a b, rangeV a b, catV, rangeV c d, rangeV c d, rangeV c d, rangeV c d, rangeV c d, rangeV c d, rangeV c d]
theorem places_get {a b c d k : Nat} (h : k < 11) : (placesV a b c d)[0 + k * 1]? = some (placeAt a b c d k) := by
  rcases k with _ | _ | _ | _ | _ | _ | _ | _ | _ | _ | _ | k
  all_goals first | rfl | omega
theorem places_get0 {a b c d k : Nat} (h : k < 11) : (placesV a b c d)[k]? = some (placeAt a b c d k) := by
  rcases k with _ | _ | _ | _ | _ | _ | _ | _ | _ | _ | _ | k
  all_goals first | rfl | omega
def plK (a b c d : Nat) (K : List (Nat × Obj)) : List (Nat × Obj) := (d, .cells #[.int .u8 57] 5 (0, 0)) :: (c, .cells #[.int .u8 48] 5 (0, 0)) :: (b, .cells #[.int .u8 90] 5 (0, 0)) :: (a, .cells #[.int .u8 65] 5 (0, 0)) :: K
set_option maxRecDepth 100000 in
set_option maxHeartbeats 4000000 in
theorem between_in (b : UInt8) (x y : Nat) (p q : Nat) (w : World) (hp : w.cell? ⟨p, 0, none⟩ = some (.int .u8 ((x : Nat) : Int))) (hq : w.cell? ⟨q, 0, none⟩ = some (.int .u8 ((y : Nat) : Int))) :
    Calls Tryd.prog 55 #[.int .u8 ((b.toNat : Nat) : Int), .pointer (some ⟨p, 0, none⟩), .pointer (some ⟨q, 0, none⟩)] w fun e w' => e = .returned (.bool (decide (x ≤ b.toNat) && decide (b.toNat ≤ y))) ∧ Below w.heap.size w w' := by
  have HP := Lib.hid hp
  have HQ := Lib.hid hq
  have ltp := World.block_lt_of_cell? _ _ hp
  have ltq := World.block_lt_of_cell? _ _ hq
  clear hp hq
  go_enter Tryd.func55, Tryd.ntmps55
  refine wp_seq ?_
  refine wp_region_L (W0 := w) [] (KS.start w) ?_
  refine lm (v := .bool false) rfl rfl ?_
  refine wpL_done (fun W1 hW1 => ?_)
  refine (show Code.wp _ _ _ _ _ from ?_)
  refine wp_seq ?_
  refine wp_region_L (W0 := w) [] (hW1) ?_
  refine lv (v := .int .u8 ((x : Nat) : Int)) rfl rfl (yb_old (off := 0) rfl (by kernel_rfl) HP.out ltp Tryd.underlying5 rfl) ?_
  refine lm (v := .int .u8 ((b.toNat : Nat) : Int)) rfl rfl ?_
  refine lp (v := .bool (!(decide (b.toNat < x)))) rfl rfl (run_bin rfl (vx := (.int .u8 ((x : Nat) : Int))) (vy := (.int .u8 ((b.toNat : Nat) : Int))) (by kernel_rfl) (by kernel_rfl) fun w => bn_leq rfl w) ?_
  refine lm (v := .bool (!(decide (b.toNat < x)))) rfl rfl ?_
  cases hd1 : (decide (b.toNat < x)) with
  | false =>
    have h1 : ¬ (b.toNat < x) := of_decide_eq_false hd1
    clear hd1
    refine lm (v := .int .u8 ((b.toNat : Nat) : Int)) rfl rfl ?_
    refine lv (v := .int .u8 ((y : Nat) : Int)) rfl rfl (yb_old (off := 0) rfl (by kernel_rfl) HQ.out ltq Tryd.underlying5 rfl) ?_
    refine lp (v := .bool (!(decide (y < b.toNat)))) rfl rfl (run_bin rfl (vx := (.int .u8 ((b.toNat : Nat) : Int))) (vy := (.int .u8 ((y : Nat) : Int))) (by kernel_rfl) (by kernel_rfl) fun w => bn_leq rfl w) ?_
    refine lm (v := .bool (!(decide (y < b.toNat)))) rfl rfl ?_
    refine lm (v := .bool (!(decide (y < b.toNat)))) rfl rfl ?_
    refine wpL_done (fun W2 hW2 => ?_)
    refine (show Code.wp _ _ _ _ _ from ?_)
    refine wp_ret ?_
    try simp only [inBlock_ret, then_ret]
    refine bodyPost_ret (v := .bool (!(decide (y < b.toNat)))) ?_ rfl ?_
    · kernel_rfl
    · exact ⟨(bool_is (by rw [Bool.eq_iff_iff]; simp <;> omega)), hW2.1⟩
  | true =>
    have h1 : b.toNat < x := of_decide_eq_true hd1
    clear hd1
    refine ln rfl ?_
    refine ln rfl ?_
    refine ln rfl ?_
    refine lm (v := .bool false) rfl rfl ?_
    refine lm (v := .bool false) rfl rfl ?_
    refine wpL_done (fun W3 hW3 => ?_)
    refine (show Code.wp _ _ _ _ _ from ?_)
    refine wp_ret ?_
    try simp only [inBlock_ret, then_ret]
    refine bodyPost_ret (v := .bool false) ?_ rfl ?_
    · kernel_rfl
    · exact ⟨(bool_is (by rw [Bool.eq_iff_iff]; simp <;> omega)), hW3.1⟩
set_option maxRecDepth 100000 in
set_option maxHeartbeats 4000000 in
theorem cat_any (b : UInt8) (w : World) : Calls Tryd.prog 56 #[.int .u8 ((b.toNat : Nat) : Int)] w fun e w' => e = .returned (.bool (isCat b)) ∧ Below w.heap.size w w' := by
  go_enter Tryd.func56, Tryd.ntmps56
  refine wp_seq ?_
  refine wp_region_L (W0 := w) [] (KS.start w) ?_
  refine lm (v := .bool false) rfl rfl ?_
  refine wpL_done (fun W1 hW1 => ?_)
  refine (show Code.wp _ _ _ _ _ from ?_)
  refine wp_seq ?_
  refine wp_region_L (W0 := w) [] (hW1) ?_
  refine lm (v := .int .u8 ((b.toNat : Nat) : Int)) rfl rfl ?_
  refine lp (v := .bool (decide (b.toNat = 85))) rfl rfl (run_bin rfl (vx := (.int .u8 ((b.toNat : Nat) : Int))) (vy := (.int .u8 ((85 : Nat) : Int))) (by kernel_rfl) (by kernel_rfl) fun w => bn_eql rfl w) ?_
  refine lm (v := .bool (decide (b.toNat = 85))) rfl rfl ?_
  cases hd1 : (decide (b.toNat = 85)) with
  | false =>
    have h1 : ¬ (b.toNat = 85) := of_decide_eq_false hd1
    clear hd1
    refine lm (v := .int .u8 ((b.toNat : Nat) : Int)) rfl rfl ?_
    refine lp (v := .bool (decide (b.toNat = 74))) rfl rfl (run_bin rfl (vx := (.int .u8 ((b.toNat : Nat) : Int))) (vy := (.int .u8 ((74 : Nat) : Int))) (by kernel_rfl) (by kernel_rfl) fun w => bn_eql rfl w) ?_
    refine lm (v := .bool (decide (b.toNat = 74))) rfl rfl ?_
    refine lm (v := .bool (decide (b.toNat = 74))) rfl rfl ?_
    cases hd2 : (decide (b.toNat = 74)) with
    | false =>
      have h2 : ¬ (b.toNat = 74) := of_decide_eq_false hd2
      clear hd2
      refine lm (v := .int .u8 ((b.toNat : Nat) : Int)) rfl rfl ?_
      refine lp (v := .bool (decide (b.toNat = 90))) rfl rfl (run_bin rfl (vx := (.int .u8 ((b.toNat : Nat) : Int))) (vy := (.int .u8 ((90 : Nat) : Int))) (by kernel_rfl) (by kernel_rfl) fun w => bn_eql rfl w) ?_
      refine lm (v := .bool (decide (b.toNat = 90))) rfl rfl ?_
      refine lm (v := .bool (decide (b.toNat = 90))) rfl rfl ?_
      refine wpL_done (fun W2 hW2 => ?_)
      refine (show Code.wp _ _ _ _ _ from ?_)
      refine wp_ret ?_
      try simp only [inBlock_ret, then_ret]
      refine bodyPost_ret (v := .bool (decide (b.toNat = 90))) ?_ rfl ?_
      · kernel_rfl
      · exact ⟨(bool_is (by unfold isCat; simp [*])), hW2.1⟩
    | true =>
      have h2 : b.toNat = 74 := of_decide_eq_true hd2
      clear hd2
      refine ln rfl ?_
      refine ln rfl ?_
      refine lm (v := .bool true) rfl rfl ?_
      refine lm (v := .bool true) rfl rfl ?_
      refine wpL_done (fun W3 hW3 => ?_)
      refine (show Code.wp _ _ _ _ _ from ?_)
      refine wp_ret ?_
      try simp only [inBlock_ret, then_ret]
      refine bodyPost_ret (v := .bool true) ?_ rfl ?_
      · kernel_rfl
      · exact ⟨(bool_is (by unfold isCat; simp [*])), hW3.1⟩
  | true =>
    have h1 : b.toNat = 85 := of_decide_eq_true hd1
    clear hd1
    refine ln rfl ?_
    refine ln rfl ?_
    refine lm (v := .bool true) rfl rfl ?_
    refine lm (v := .bool true) rfl rfl ?_
    refine ln rfl ?_
    refine ln rfl ?_
    refine lm (v := .bool true) rfl rfl ?_
    refine lm (v := .bool true) rfl rfl ?_
    refine wpL_done (fun W4 hW4 => ?_)
    refine (show Code.wp _ _ _ _ _ from ?_)
    refine wp_ret ?_
    try simp only [inBlock_ret, then_ret]
    refine bodyPost_ret (v := .bool true) ?_ rfl ?_
    · kernel_rfl
    · exact ⟨(bool_is (by unfold isCat; simp [*])), hW4.1⟩
set_option maxRecDepth 100000 in
set_option maxHeartbeats 4000000 in
theorem between_any (x y : Int) (w : World) : Calls Tryd.prog 54 #[.int .u8 x, .int .u8 y] w fun e w' => ∃ a b, e = .returned (rangeV a b) ∧ w.heap.size ≤ a ∧ w.heap.size ≤ b ∧ w'.heap[a]? = some (.cells #[.int .u8 x] 5 (0, 0)) ∧ w'.heap[b]? = some (.cells #[.int .u8 y] 5 (0, 0)) ∧ Below w.heap.size w w' := by
  go_enter Tryd.func54, Tryd.ntmps54
  refine wp_seq ?_
  refine wp_region_L (W0 := w) [] (KS.start w) ?_
  refine wpL_new (fun g => .pointer (some ⟨g, 0, none⟩)) (obi := .cells #[.int .u8 x] 5 (0, 0)) rfl rfl (fun _ => by kernel_rfl) (fun _ => by simp only [List.setIfInBounds_toArray, List.set_cons_succ, List.set_cons_zero] <;> rfl) fun g1 Bg1 Fg1 => ?_
  refine wpL_new (fun g => .pointer (some ⟨g, 0, none⟩)) (obi := .cells #[.int .u8 y] 5 (0, 0)) rfl rfl (fun _ => by kernel_rfl) (fun _ => by simp only [List.setIfInBounds_toArray, List.set_cons_succ, List.set_cons_zero] <;> rfl) fun g2 Bg2 Fg2 => ?_
  refine lm (v := .nilFunc) rfl rfl ?_
  refine wpL_done (fun W1 hW1 => ?_)
  refine (show Code.wp _ _ _ _ _ from ?_)
  refine wp_seq ?_
  refine wp_region_L (W0 := w) [(g2, .cells #[.int .u8 y] 5 (0, 0)), (g1, .cells #[.int .u8 x] 5 (0, 0))] (hW1) ?_
  refine lm (v := .func (.func 55) #[] #[.pointer (some ⟨g1, 0, none⟩), .pointer (some ⟨g2, 0, none⟩)]) rfl rfl ?_
  refine lm (v := .func (.func 55) #[] #[.pointer (some ⟨g1, 0, none⟩), .pointer (some ⟨g2, 0, none⟩)]) rfl rfl ?_
  refine wpL_done (fun W2 hW2 => ?_)
  refine (show Code.wp _ _ _ _ _ from ?_)
  refine wp_ret ?_
  try simp only [inBlock_ret, then_ret]
  refine bodyPost_ret (v := .func (.func 55) #[] #[.pointer (some ⟨g1, 0, none⟩), .pointer (some ⟨g2, 0, none⟩)]) ?_ rfl ?_
  · kernel_rfl
  · exact ⟨g1, g2, rfl, Bg1, Bg2, hW2.2 _ (.tail _ (.head _)), hW2.2 _ (.head _), hW2.1⟩
def GB (W0 : Base) (K : List (Nat × Obj)) (x y : Int) (v : Value) (K' : List (Nat × Obj)) : Prop := ∃ a b, v = rangeV a b ∧ W0.B ≤ a ∧ W0.B ≤ b ∧ (∀ p ∈ K, p.1 ≠ a) ∧ (∀ p ∈ K, p.1 ≠ b) ∧ K' = (b, .cells #[.int .u8 y] 5 (0, 0)) :: (a, .cells #[.int .u8 x] 5 (0, 0)) :: K
theorem calls_gb {W0 : Base} {W : World} {K : List (Nat × Obj)} (x y : Int) (hW : KS W0 K W) : Calls Tryd.prog 54 #[.int .u8 x, .int .u8 y] W fun e w' => ∃ v K', e = .returned v ∧ KS W0 K' w' ∧ GB W0 K x y v K' :=
  (between_any x y W).mono fun e w' ⟨a, b, he, ha, hb, h1, h2, hbel⟩ => by
    have hK := hW.below hbel
    refine ⟨_, _, he, ⟨hK.1, ?_⟩, a, b, rfl, Nat.le_trans hW.size ha, Nat.le_trans hW.size hb, fun p hp e => ?_, fun p hp e => ?_, rfl⟩
    · intro p hp
      rcases List.mem_cons.1 hp with rfl | hp
      · exact h2
      · rcases List.mem_cons.1 hp with rfl | hp
        · exact h1
        · exact hK.2 p hp
    · have := lt_of_block (hW.2 p hp); omega
    · have := lt_of_block (hW.2 p hp); omega
set_option maxRecDepth 100000 in
set_option maxHeartbeats 4000000 in
theorem places_any (w : World) : Calls Tryd.prog 42 #[] w fun e w' => ∃ a b c d, e = .returned (.agg (placesV a b c d)) ∧ w.heap.size ≤ a ∧ w.heap.size ≤ b ∧ w.heap.size ≤ c ∧ w.heap.size ≤ d ∧ (∀ p ∈ plK a b c d [], w'.heap[p.1]? = some p.2) ∧ Below w.heap.size w w' := by
  go_enter Tryd.func42, Tryd.ntmps42
  refine wp_seq ?_
  refine wp_region_L (W0 := w) [] (KS.start w) ?_
  refine wpL_new (fun g => .pointer (some ⟨g, 0, none⟩)) (obi := .cells #[.nilFunc, .nilFunc, .nilFunc, .nilFunc, .nilFunc, .nilFunc, .nilFunc, .nilFunc, .nilFunc, .nilFunc, .nilFunc] 85 (0, 0)) rfl rfl (fun _ => by kernel_rfl) (fun _ => by simp only [List.setIfInBounds_toArray, List.set_cons_succ, List.set_cons_zero] <;> rfl) fun g1 Bg1 Fg1 => ?_
  refine wpL_done (fun W1 hW1 => ?_)
  refine (show Code.wp _ _ _ _ _ from ?_)
  refine wp_seq ?_
  refine wp_region_L (W0 := w) [(g1, .cells #[.nilFunc, .nilFunc, .nilFunc, .nilFunc, .nilFunc, .nilFunc, .nilFunc, .nilFunc, .nilFunc, .nilFunc, .nilFunc] 85 (0, 0))] (hW1) ?_
  refine lm (v := .func (.func 54) #[] #[]) rfl rfl ?_
  refine wpL_done (fun W2 hW2 => ?_)
  refine (show Code.wp _ _ _ _ _ from ?_)
  refine wp_seq ?_
  refine wp_region_L (W0 := w) [(g1, .cells #[.nilFunc, .nilFunc, .nilFunc, .nilFunc, .nilFunc, .nilFunc, .nilFunc, .nilFunc, .nilFunc, .nilFunc, .nilFunc] 85 (0, 0))] (hW2) ?_
  refine lm (v := .func (.func 54) #[] #[]) rfl rfl ?_
  refine wpL_c (f := 54) (args := #[.int .u8 65, .int .u8 90]) (GB w [(g1, .cells #[.nilFunc, .nilFunc, .nilFunc, .nilFunc, .nilFunc, .nilFunc, .nilFunc, .nilFunc, .nilFunc, .nilFunc, .nilFunc] 85 (0, 0))] 65 90) rfl (by kernel_rfl) (fun _ => (by kernel_rfl)) (fun W hW => calls_gb 65 90 hW) (fun _ => by simp only [List.setIfInBounds_toArray, List.set_cons_succ, List.set_cons_zero] <;> rfl) ?_
  rintro v K9 ⟨g2, g3, rfl, Bg2, Bg3, Fg2, Fg3, rfl⟩
  refine lm (v := .func (.func 54) #[] #[]) rfl rfl ?_
  refine wpL_c (f := 54) (args := #[.int .u8 48, .int .u8 57]) (GB w [(g3, .cells #[.int .u8 90] 5 (0, 0)), (g2, .cells #[.int .u8 65] 5 (0, 0)), (g1, .cells #[.nilFunc, .nilFunc, .nilFunc, .nilFunc, .nilFunc, .nilFunc, .nilFunc, .nilFunc, .nilFunc, .nilFunc, .nilFunc] 85 (0, 0))] 48 57) rfl (by kernel_rfl) (fun _ => (by kernel_rfl)) (fun W hW => calls_gb 48 57 hW) (fun _ => by simp only [List.setIfInBounds_toArray, List.set_cons_succ, List.set_cons_zero] <;> rfl) ?_
  rintro v K9 ⟨g4, g5, rfl, Bg4, Bg5, Fg4, Fg5, rfl⟩
  refine lm (v := rangeV g2 g3) rfl rfl ?_
  refine lm (v := rangeV g4 g5) rfl rfl ?_
  refine wpL_done (fun W3 hW3 => ?_)
  refine (show Code.wp _ _ _ _ _ from ?_)
  refine wp_seq ?_
  refine wp_region_L (W0 := w) [(g5, .cells #[.int .u8 57] 5 (0, 0)), (g4, .cells #[.int .u8 48] 5 (0, 0)), (g3, .cells #[.int .u8 90] 5 (0, 0)), (g2, .cells #[.int .u8 65] 5 (0, 0)), (g1, .cells #[.nilFunc, .nilFunc, .nilFunc, .nilFunc, .nilFunc, .nilFunc, .nilFunc, .nilFunc, .nilFunc, .nilFunc, .nilFunc] 85 (0, 0))] (hW3) ?_
  refine lm (v := catV) rfl rfl ?_
  refine wpL_done (fun W4 hW4 => ?_)
  refine (show Code.wp _ _ _ _ _ from ?_)
  refine wp_seq ?_
  refine wp_region_L (W0 := w) [(g5, .cells #[.int .u8 57] 5 (0, 0)), (g4, .cells #[.int .u8 48] 5 (0, 0)), (g3, .cells #[.int .u8 90] 5 (0, 0)), (g2, .cells #[.int .u8 65] 5 (0, 0)), (g1, .cells #[.nilFunc, .nilFunc, .nilFunc, .nilFunc, .nilFunc, .nilFunc, .nilFunc, .nilFunc, .nilFunc, .nilFunc, .nilFunc] 85 (0, 0))] (hW4) ?_
  refine lm (v := rangeV g2 g3) rfl rfl ?_
  refine lm (v := rangeV g2 g3) rfl rfl ?_
  refine lm (v := rangeV g2 g3) rfl rfl ?_
  refine lm (v := catV) rfl rfl ?_
  refine lm (v := rangeV g4 g5) rfl rfl ?_
  refine lm (v := rangeV g4 g5) rfl rfl ?_
  refine lm (v := rangeV g4 g5) rfl rfl ?_
  refine lm (v := rangeV g4 g5) rfl rfl ?_
  refine lm (v := rangeV g4 g5) rfl rfl ?_
  refine lm (v := rangeV g4 g5) rfl rfl ?_
  refine lm (v := rangeV g4 g5) rfl rfl ?_
  refine lm (v := .agg #[rangeV g2 g3, rangeV g2 g3, rangeV g2 g3, catV, rangeV g4 g5, rangeV g4 g5, rangeV g4 g5, rangeV g4 g5, rangeV g4 g5, rangeV g4 g5, rangeV g4 g5]) rfl rfl ?_
  refine wpL_s [(g5, .cells #[.int .u8 57] 5 (0, 0)), (g4, .cells #[.int .u8 48] 5 (0, 0)), (g3, .cells #[.int .u8 90] 5 (0, 0)), (g2, .cells #[.int .u8 65] 5 (0, 0)), (g1, .cells #[rangeV g2 g3, rangeV g2 g3, rangeV g2 g3, catV, rangeV g4 g5, rangeV g4 g5, rangeV g4 g5, rangeV g4 g5, rangeV g4 g5, rangeV g4 g5, rangeV g4 g5] 85 (0, 0))] rfl rfl (st_row (off := 0) (v := .agg #[rangeV g2 g3, rangeV g2 g3, rangeV g2 g3, catV, rangeV g4 g5, rangeV g4 g5, rangeV g4 g5, rangeV g4 g5, rangeV g4 g5, rangeV g4 g5, rangeV g4 g5]) rfl (by kernel_rfl) (by kernel_rfl) (.tail _ (.tail _ (.tail _ (.tail _ (.head _))))) Bg1 (by kernel_rfl) (by simp [Value.cells]) (by intro v hv; simp [Value.cells] at hv; first | (subst hv; rfl) | (rcases hv with rfl | rfl | rfl | rfl | rfl | rfl | rfl | rfl | rfl | rfl | rfl <;> rfl)) (by kernel_rfl) (List.forall_mem_cons.2 ⟨.inr ⟨(.head _), (Ne.symm (Fg5 _ (.tail _ (.tail _ (.head _)))))⟩, (List.forall_mem_cons.2 ⟨.inr ⟨(.tail _ (.head _)), (Ne.symm (Fg4 _ (.tail _ (.tail _ (.head _)))))⟩, (List.forall_mem_cons.2 ⟨.inr ⟨(.tail _ (.tail _ (.head _))), (Ne.symm (Fg3 _ (.head _)))⟩, (List.forall_mem_cons.2 ⟨.inr ⟨(.tail _ (.tail _ (.tail _ (.head _)))), (Ne.symm (Fg2 _ (.head _)))⟩, (List.forall_mem_cons.2 ⟨.inl rfl, (List.forall_mem_nil _)⟩)⟩)⟩)⟩)⟩)) ?_
  refine wpL_done (fun W5 hW5 => ?_)
  refine (show Code.wp _ _ _ _ _ from ?_)
  refine wp_ret ?_
  try simp only [inBlock_ret, then_ret]
  refine bodyPost_ret (v := .agg #[rangeV g2 g3, rangeV g2 g3, rangeV g2 g3, catV, rangeV g4 g5, rangeV g4 g5, rangeV g4 g5, rangeV g4 g5, rangeV g4 g5, rangeV g4 g5, rangeV g4 g5]) ?_ rfl ?_
  · exact (res_cell rfl rfl (hW5.2 _ (.tail _ (.tail _ (.tail _ (.tail _ (.head _)))))) Tryd.underlying85 rfl (by kernel_rfl))
  · exact ⟨g2, g3, g4, g5, rfl, Bg2, Bg3, Bg4, Bg5, List.forall_mem_cons.2 ⟨hW5.2 _ (.head _), List.forall_mem_cons.2 ⟨hW5.2 _ (.tail _ (.head _)), List.forall_mem_cons.2 ⟨hW5.2 _ (.tail _ (.tail _ (.head _))), List.forall_mem_cons.2 ⟨hW5.2 _ (.tail _ (.tail _ (.tail _ (.head _)))), List.forall_mem_nil _⟩⟩⟩⟩, hW5.1⟩
def GPl (W0 : Base) (K : List (Nat × Obj)) (v : Value) (K' : List (Nat × Obj)) : Prop := ∃ a b c d, v = .agg (placesV a b c d) ∧ W0.B ≤ a ∧ W0.B ≤ b ∧ W0.B ≤ c ∧ W0.B ≤ d ∧ (∀ p ∈ K, p.1 ≠ a) ∧ (∀ p ∈ K, p.1 ≠ b) ∧ (∀ p ∈ K, p.1 ≠ c) ∧ (∀ p ∈ K, p.1 ≠ d) ∧ K' = plK a b c d K
theorem calls_pl {W0 : Base} {W : World} {K : List (Nat × Obj)} (hW : KS W0 K W) : Calls Tryd.prog 42 #[] W fun e w' => ∃ v K', e = .returned v ∧ KS W0 K' w' ∧ GPl W0 K v K' :=
  (places_any W).mono fun e w' ⟨a, b, c, d, he, ha, hb, hc, hd, h1, hbel⟩ => by
    have hK := hW.below hbel
    have hz := hW.size
    refine ⟨_, _, he, ⟨hK.1, ?_⟩, a, b, c, d, rfl, by omega, by omega, by omega, by omega, fun p hp e => ?_, fun p hp e => ?_, fun p hp e => ?_, fun p hp e => ?_, rfl⟩
    · intro p hp
      unfold plK at hp h1
      rcases List.mem_cons.1 hp with rfl | hp
      · exact h1 _ (.head _)
      rcases List.mem_cons.1 hp with rfl | hp
      · exact h1 _ (.tail _ (.head _))
      rcases List.mem_cons.1 hp with rfl | hp
      · exact h1 _ (.tail _ (.tail _ (.head _)))
      rcases List.mem_cons.1 hp with rfl | hp
      · exact h1 _ (.tail _ (.tail _ (.tail _ (.head _))))
      · exact hK.2 p hp
    all_goals (have := lt_of_block (hW.2 p hp); omega)
theorem yb_may {W0 : Base} {o : Oper} {a : Act} {K : List (Nat × Obj)} {x y : Operand} {tt : Array TypeId} {p q r s k : Nat} {b : UInt8} (ho : o.op = .call { callee := .value x, args := #[y], argTypes := tt }) (hx : a.eval x = placeAt p q r s k) (hy : a.eval y = .int .u8 ((b.toNat : Nat) : Int))
    (h1 : (p, .cells #[.int .u8 65] 5 (0, 0)) ∈ K) (h2 : (q, .cells #[.int .u8 90] 5 (0, 0)) ∈ K) (h3 : (r, .cells #[.int .u8 48] 5 (0, 0)) ∈ K) (h4 : (s, .cells #[.int .u8 57] 5 (0, 0)) ∈ K) :
    ∀ w, KS W0 K w → ∀ K' : Act → World → Prop, (∀ w', Below w.heap.size w w' → K' (a.put o.dst (.bool (mayB k b))) w') → Oper.wp Tryd.prog o a w K' (fun _ _ _ => False) := by
  have cell : ∀ (w : World), KS W0 K w → ∀ (g : Nat) (v : Value), (g, .cells #[v] 5 (0, 0)) ∈ K → w.cell? ⟨g, 0, none⟩ = some v := fun w hw g v hm => by rw [cell_of_row w g 0 _ _ (0, 0) (hw.2 _ hm)]; rfl
  unfold placeAt at hx
  split at hx
  · rename_i hk
    rw [show mayB k b = (decide (65 ≤ b.toNat) && decide (b.toNat ≤ 90)) from by unfold mayB; rw [if_pos hk]; rfl]
    exact yb_call (fun w => run_callv ho hx hy (fun _ _ => by kernel_rfl) w) fun w hw => between_in b 65 90 p q w (cell w hw _ _ h1) (cell w hw _ _ h2)
  · split at hx
    · rename_i hk hk2
      rw [show mayB k b = isCat b from by unfold mayB; rw [if_neg hk, if_pos hk2]]
      exact yb_call (fun w => run_callv ho hx hy (fun _ _ => by kernel_rfl) w) fun w hw => cat_any b w
    · rename_i hk hk2
      rw [show mayB k b = (decide (48 ≤ b.toNat) && decide (b.toNat ≤ 57)) from by unfold mayB; rw [if_neg hk, if_neg hk2]; rfl]
      exact yb_call (fun w => run_callv ho hx hy (fun _ _ => by kernel_rfl) w) fun w hw => between_in b 48 57 r s w (cell w hw _ _ h3) (cell w hw _ _ h4)
end Go.Proofs.YtbceajgipmjmlaaDoor
namespace Go.Proofs.YtbceajgipmjmlaaDoor
open Go Go.RowKit Tw
theorem judge_len {l : List UInt8} (h : judgeN l = 0) : l.length = 11 := by
  unfold judgeN at h
  split at h
  · exact fit_len (by assumption)
  · omega
set_option maxRecDepth 100000 in
set_option maxHeartbeats 4000000 in
theorem fits_any (l : List UInt8) (n : Nat) (hn : n ≤ 11) (w : World) : Calls Tryd.prog 45 #[strV l, .int .i64 ((n : Nat) : Int)] w fun e w' => e = .returned (.bool (fitB l n)) ∧ Below w.heap.size w w' := by
  go_enter Tryd.func45, Tryd.ntmps45
  refine wp_seq ?_
  refine wp_region_L (W0 := w) [] (KS.start w) ?_
  refine lm (v := .bool false) rfl rfl ?_
  refine wpL_done (fun W1 hW1 => ?_)
  refine (show Code.wp _ _ _ _ _ from ?_)
  refine wp_seq ?_
  refine wp_seq ?_
  refine wp_region_L (W0 := w) [] (hW1) ?_
  refine lm (v := strV l) rfl rfl ?_
  refine lp (v := .int .i64 ((l.length : Nat) : Int)) rfl rfl (run_lenS (l := l) rfl Tryd.underlying9 (by kernel_rfl)) ?_
  refine lm (v := .int .i64 ((n : Nat) : Int)) rfl rfl ?_
  refine lp (v := .bool (!(decide (l.length = n)))) rfl rfl (run_bin rfl (vx := (.int .i64 ((l.length : Nat) : Int))) (vy := (.int .i64 ((n : Nat) : Int))) (by kernel_rfl) (by kernel_rfl) fun w => bn_neq rfl w) ?_
  refine wpL_done (fun W2 hW2 => ?_)
  refine (show Code.wp _ _ _ _ _ from ?_)
  cases hd1 : (decide (l.length = n)) with
  | false =>
    have h1 : ¬ (l.length = n) := of_decide_eq_false hd1
    clear hd1
    refine wp_cond_true rfl ?_
    refine wp_seq ?_
    refine wp_region_L (W0 := w) [] (hW2) ?_
    refine lm (v := .bool false) rfl rfl ?_
    refine wpL_done (fun W3 hW3 => ?_)
    refine (show Code.wp _ _ _ _ _ from ?_)
    refine wp_ret ?_
    try simp only [inBlock_ret, then_ret]
    refine bodyPost_ret (v := .bool false) ?_ rfl ?_
    · kernel_rfl
    · exact ⟨(bool_is (by unfold fitB; simp [*])), hW3.1⟩
  | true =>
    have h1 : l.length = n := of_decide_eq_true hd1
    clear hd1
    refine wp_cond_false rfl ?_
    refine wp_skip ?_
    refine (show Code.wp _ _ _ _ _ from ?_)
    refine wp_seq ?_
    refine wp_region_L (W0 := w) [] (hW2) ?_
    refine wpL_c (f := 42) (args := #[]) (GPl w []) rfl (by kernel_rfl) (fun _ => (by kernel_rfl)) (fun W hW => calls_pl hW) (fun _ => by simp only [List.setIfInBounds_toArray, List.set_cons_succ, List.set_cons_zero] <;> rfl) ?_
    rintro v K9 ⟨g1, g2, g3, g4, rfl, Bg1, Bg2, Bg3, Bg4, Fg1, Fg2, Fg3, Fg4, rfl⟩
    unfold plK
    refine wpL_new (fun g => .pointer (some ⟨g, 0, none⟩)) (obi := .cells #[.nilFunc, .nilFunc, .nilFunc, .nilFunc, .nilFunc, .nilFunc, .nilFunc, .nilFunc, .nilFunc, .nilFunc, .nilFunc] 85 (0, 0)) rfl rfl (fun _ => by kernel_rfl) (fun _ => by simp only [List.setIfInBounds_toArray, List.set_cons_succ, List.set_cons_zero] <;> rfl) fun g5 Bg5 Fg5 => ?_
    refine wpL_s [(g5, .cells (placesV g1 g2 g3 g4) 85 (0, 0)), (g4, .cells #[.int .u8 57] 5 (0, 0)), (g3, .cells #[.int .u8 48] 5 (0, 0)), (g2, .cells #[.int .u8 90] 5 (0, 0)), (g1, .cells #[.int .u8 65] 5 (0, 0))] rfl rfl (st_row (off := 0) (v := .agg (placesV g1 g2 g3 g4)) rfl (by kernel_rfl) (by kernel_rfl) (.head _) Bg5 (by kernel_rfl) (by simp [Value.cells, placesV]) (by intro v hv; simp [Value.cells, placesV] at hv; rcases hv with rfl | rfl | rfl | rfl | rfl | rfl | rfl | rfl | rfl | rfl | rfl <;> rfl) (by kernel_rfl) (List.forall_mem_cons.2 ⟨.inl rfl, (List.forall_mem_cons.2 ⟨.inr ⟨(.tail _ (.head _)), (Fg5 _ (.head _))⟩, (List.forall_mem_cons.2 ⟨.inr ⟨(.tail _ (.tail _ (.head _))), (Fg5 _ (.tail _ (.head _)))⟩, (List.forall_mem_cons.2 ⟨.inr ⟨(.tail _ (.tail _ (.tail _ (.head _)))), (Fg5 _ (.tail _ (.tail _ (.head _))))⟩, (List.forall_mem_cons.2 ⟨.inr ⟨(.tail _ (.tail _ (.tail _ (.tail _ (.head _))))), (Fg5 _ (.tail _ (.tail _ (.tail _ (.head _)))))⟩, (List.forall_mem_nil _)⟩)⟩)⟩)⟩)⟩)) ?_
    refine wpL_done (fun W4 hW4 => ?_)
    refine (show Code.wp _ _ _ _ _ from ?_)
    refine wp_seq ?_
    refine wp_seq ?_
    refine wp_region_L (W0 := w) [(g5, .cells (placesV g1 g2 g3 g4) 85 (0, 0)), (g4, .cells #[.int .u8 57] 5 (0, 0)), (g3, .cells #[.int .u8 48] 5 (0, 0)), (g2, .cells #[.int .u8 90] 5 (0, 0)), (g1, .cells #[.int .u8 65] 5 (0, 0))] (hW4) ?_
    refine lm (v := .int .i64 ((n : Nat) : Int)) rfl rfl ?_
    refine lm (v := .int .i64 0) rfl rfl ?_
    refine wpL_done (fun W5 hW5 => ?_)
    refine (show Code.wp _ _ _ _ _ from ?_)
    refine wp_block ?_
    go_loopw [13] (fun u13 wr => ∃ (k : Nat), (k ≤ n) ∧ (fitF 0 l = fitF k (l.drop k)) ∧ u13 = .int .i64 ((k : Nat) : Int) ∧ KS w [(g5, .cells (placesV g1 g2 g3 g4) 85 (0, 0)), (g4, .cells #[.int .u8 57] 5 (0, 0)), (g3, .cells #[.int .u8 48] 5 (0, 0)), (g2, .cells #[.int .u8 90] 5 (0, 0)), (g1, .cells #[.int .u8 65] 5 (0, 0))] wr) (fun u13 _ => n - (intOf u13).toNat)
    case atStart => exact ⟨0, (Nat.zero_le _), rfl, rfl, hW5⟩
    case round =>
      obtain ⟨k, hk, hf, rfl, hL6⟩ := hrel
      refine wp_seq ?_
      refine wp_region_L (W0 := w) [(g5, .cells (placesV g1 g2 g3 g4) 85 (0, 0)), (g4, .cells #[.int .u8 57] 5 (0, 0)), (g3, .cells #[.int .u8 48] 5 (0, 0)), (g2, .cells #[.int .u8 90] 5 (0, 0)), (g1, .cells #[.int .u8 65] 5 (0, 0))] (hL6) ?_
      refine lp (v := .bool (decide (k < n))) rfl rfl (run_bin rfl (vx := (.int .i64 ((k : Nat) : Int))) (vy := (.int .i64 ((n : Nat) : Int))) (by kernel_rfl) (by kernel_rfl) fun w => bn_lss rfl w) ?_
      refine wpL_done (fun W7 hW7 => ?_)
      refine (show Code.wp _ _ _ _ _ from ?_)
      refine wp_seq ?_
      cases hd2 : (decide (k < n)) with
      | false =>
        have h2 : ¬ (k < n) := of_decide_eq_false hd2
        clear hd2
        have hff : fitF 0 l = true := by rw [hf, List.drop_eq_nil_of_le (by omega)]; rfl
        refine wp_cond_false rfl ?_
        refine wp_exit ?_
        refine (show Code.wp _ _ _ _ _ from ?_)
        refine wp_seq ?_
        refine wp_region_L (W0 := w) [(g5, .cells (placesV g1 g2 g3 g4) 85 (0, 0)), (g4, .cells #[.int .u8 57] 5 (0, 0)), (g3, .cells #[.int .u8 48] 5 (0, 0)), (g2, .cells #[.int .u8 90] 5 (0, 0)), (g1, .cells #[.int .u8 65] 5 (0, 0))] (hW7) ?_
        refine lm (v := .bool true) rfl rfl ?_
        refine wpL_done (fun W8 hW8 => ?_)
        refine (show Code.wp _ _ _ _ _ from ?_)
        refine wp_ret ?_
        try simp only [inBlock_ret, then_ret]
        refine bodyPost_ret (v := .bool true) ?_ rfl ?_
        · kernel_rfl
        · exact ⟨(bool_is (by unfold fitB; rw [hff]; simp [*])), hW8.1⟩
      | true =>
        have h2 : k < n := of_decide_eq_true hd2
        clear hd2
        refine wp_cond_true rfl ?_
        refine wp_skip ?_
        refine (show Code.wp _ _ _ _ _ from ?_)
        refine wp_seq ?_
        refine wp_block ?_
        refine wp_seq ?_
        refine wp_region_L (W0 := w) [(g5, .cells (placesV g1 g2 g3 g4) 85 (0, 0)), (g4, .cells #[.int .u8 57] 5 (0, 0)), (g3, .cells #[.int .u8 48] 5 (0, 0)), (g2, .cells #[.int .u8 90] 5 (0, 0)), (g1, .cells #[.int .u8 65] 5 (0, 0))] (hW7) ?_
        refine lm (v := .int .i64 ((k : Nat) : Int)) rfl rfl ?_
        refine lm (v := .int .i64 ((k : Nat) : Int)) rfl rfl ?_
        refine wpL_done (fun W9 hW9 => ?_)
        refine (show Code.wp _ _ _ _ _ from ?_)
        refine wp_seq ?_
        refine wp_region_V (W0 := w) [(g5, .cells (placesV g1 g2 g3 g4) 85 (0, 0)), (g4, .cells #[.int .u8 57] 5 (0, 0)), (g3, .cells #[.int .u8 48] 5 (0, 0)), (g2, .cells #[.int .u8 90] 5 (0, 0)), (g1, .cells #[.int .u8 65] 5 (0, 0))] (by kernel_rfl) (hW9) ?_
        refine vm (i := 0) (v := .int .i64 ((k : Nat) : Int)) rfl rfl rfl ?_
        refine vp (i := 1) (v := .pointer (some ⟨g5, 0 + k * 1, none⟩)) rfl rfl rfl (run_idxA (j := .i64) (b := g5) (off := 0) (k := k) (sz := 1) rfl Tryd.underlying85 (by kernel_rfl) (by kernel_rfl) (by kernel_rfl) (by omega)) ?_
        refine vv (i := 2) (v := placeAt g1 g2 g3 g4 k) rfl rfl rfl (yb_cell rfl (by kernel_rfl) (.head _) Tryd.underlying84 rfl (places_get (by omega))) ?_
        refine vm (i := 3) (v := strV l) rfl rfl rfl ?_
        refine vm (i := 4) (v := .int .i64 ((k : Nat) : Int)) rfl rfl rfl ?_
        obtain ⟨b6, hb6⟩ : ∃ b, l[k]? = some b := ⟨_, List.getElem?_eq_getElem (by omega)⟩
        have lb6 := b6.toNat_lt
        refine vp (i := 5) (v := .int .u8 ((b6.toNat : Nat) : Int)) rfl rfl rfl (run_idxS (j := .i64) (l := l) (k := k) (b := b6) rfl Tryd.underlying9 (by kernel_rfl) (by kernel_rfl) hb6) ?_
        refine vv (i := 6) (v := .bool (mayB k b6)) rfl rfl rfl (yb_may (k := k) (b := b6) rfl (by kernel_rfl) (by kernel_rfl) (.tail _ (.tail _ (.tail _ (.tail _ (.head _))))) (.tail _ (.tail _ (.tail _ (.head _)))) (.tail _ (.tail _ (.head _))) (.tail _ (.head _))) ?_
        refine vp (i := 7) (v := .bool (!(mayB k b6))) rfl rfl rfl (run_un rfl (by kernel_rfl) fun w => un_not w) ?_
        refine wpV_done (by kernel_rfl) (fun W10 hW10 => ?_) _
        refine (show Code.wp _ _ _ _ _ from ?_)
        cases h3 : (mayB k b6) with
        | false =>
          have hff : fitF 0 l = false := by rw [hf, fitF_drop hb6, h3]; rfl
          refine wp_cond_true rfl ?_
          refine wp_seq ?_
          refine wp_region_L (W0 := w) [(g5, .cells (placesV g1 g2 g3 g4) 85 (0, 0)), (g4, .cells #[.int .u8 57] 5 (0, 0)), (g3, .cells #[.int .u8 48] 5 (0, 0)), (g2, .cells #[.int .u8 90] 5 (0, 0)), (g1, .cells #[.int .u8 65] 5 (0, 0))] (hW10) ?_
          refine lm (v := .bool false) rfl rfl ?_
          refine wpL_done (fun W11 hW11 => ?_)
          refine (show Code.wp _ _ _ _ _ from ?_)
          refine wp_ret ?_
          try simp only [inBlock_ret, then_ret]
          refine bodyPost_ret (v := .bool false) ?_ rfl ?_
          · kernel_rfl
          · exact ⟨(bool_is (by unfold fitB; rw [hff]; simp [*])), hW11.1⟩
        | true =>
          refine wp_cond_false rfl ?_
          refine wp_skip ?_
          refine (show Code.wp _ _ _ _ _ from ?_)
          refine wp_region_L (W0 := w) [(g5, .cells (placesV g1 g2 g3 g4) 85 (0, 0)), (g4, .cells #[.int .u8 57] 5 (0, 0)), (g3, .cells #[.int .u8 48] 5 (0, 0)), (g2, .cells #[.int .u8 90] 5 (0, 0)), (g1, .cells #[.int .u8 65] 5 (0, 0))] (hW10) ?_
          refine lp (v := .int .i64 (((k + 1) : Nat) : Int)) rfl rfl (run_bin rfl (vx := (.int .i64 ((k : Nat) : Int))) (vy := (.int .i64 ((1 : Nat) : Int))) (by kernel_rfl) (by kernel_rfl) fun w => bn_add (z := (k + 1)) rfl (wr_i64 (by omega)) w) ?_
          refine lm (v := .int .i64 (((k + 1) : Nat) : Int)) rfl rfl ?_
          refine wpL_done (fun W12 hW12 => ?_)
          go_roundw
          case rel =>
            repeat apply Exists.intro
            exact ⟨⟨k + 1, (by omega), (by rw [hf, fitF_drop hb6, h3]; rfl), rfl, hW12⟩, rfl⟩
          case measure => (show n - (intOf (.int .i64 (((k + 1) : Nat) : Int))).toNat < n - (intOf (.int .i64 ((k : Nat) : Int))).toNat); simp only [intOf]; omega
set_option maxRecDepth 100000 in
set_option maxHeartbeats 4000000 in
theorem agrees_any (l : List UInt8) (hl : l.length = 11) (w : World) : Calls Tryd.prog 43 #[strV l] w fun e w' => e = .returned (.bool (agrB l)) ∧ Below w.heap.size w w' := by
  go_enter Tryd.func43, Tryd.ntmps43
  refine wp_seq ?_
  refine wp_region_L (W0 := w) [] (KS.start w) ?_
  refine lm (v := .bool false) rfl rfl ?_
  refine wpL_done (fun W1 hW1 => ?_)
  refine (show Code.wp _ _ _ _ _ from ?_)
  refine wp_seq ?_
  refine wp_region_V (W0 := w) [] (by kernel_rfl) (hW1) ?_
  refine vm (i := 0) (v := strV l) rfl rfl rfl ?_
  refine vp (i := 1) (v := strV (l.take 10)) rfl rfl rfl (run_slH (k2 := .i64) (l := l) (r := (l.take 10)) (j := 10) rfl Tryd.underlying9 (by kernel_rfl) (by kernel_rfl) (by first | omega | (simp; omega)) rfl) ?_
  refine vv (i := 2) (v := .int .u8 (((chkN (l.take 10)) : Nat) : Int)) rfl rfl rfl (yb_call (f := 46) (args := #[strV (l.take 10)]) (fun _ => by kernel_rfl) fun W hW => checkDigit_any (l.take 10) (by simp; omega) W) ?_
  refine vm (i := 3) (v := strV l) rfl rfl rfl ?_
  obtain ⟨b1, hb1⟩ : ∃ b, l[10]? = some b := ⟨_, List.getElem?_eq_getElem (by omega)⟩
  have lb1 := b1.toNat_lt
  refine vp (i := 4) (v := .int .u8 ((b1.toNat : Nat) : Int)) rfl rfl rfl (run_idxS (j := .i64) (l := l) (k := 10) (b := b1) rfl Tryd.underlying9 (by kernel_rfl) (by kernel_rfl) hb1) ?_
  refine vp (i := 5) (v := .bool (decide ((chkN (l.take 10)) = b1.toNat))) rfl rfl rfl (run_bin rfl (vx := (.int .u8 (((chkN (l.take 10)) : Nat) : Int))) (vy := (.int .u8 ((b1.toNat : Nat) : Int))) (by kernel_rfl) (by kernel_rfl) fun w => bn_eql rfl w) ?_
  refine vm (i := 6) (v := .bool (decide ((chkN (l.take 10)) = b1.toNat))) rfl rfl rfl ?_
  refine wpV_done (by kernel_rfl) (fun W2 hW2 => ?_) _
  refine (show Code.wp _ _ _ _ _ from ?_)
  refine wp_ret ?_
  try simp only [inBlock_ret, then_ret]
  refine bodyPost_ret (v := .bool (decide ((chkN (l.take 10)) = b1.toNat))) ?_ rfl ?_
  · kernel_rfl
  · exact ⟨(bool_is (by unfold agrB; rw [show l.getD 10 0 = b1 from by rw [List.getD_eq_getElem?_getD, hb1]; rfl])), hW2.1⟩
set_option maxRecDepth 100000 in
set_option maxHeartbeats 4000000 in
theorem judge_any (l : List UInt8) (w : World) : Calls Tryd.prog 41 #[strV l] w fun e w' => e = .returned (.int .i64 (((judgeN l) : Nat) : Int)) ∧ Below w.heap.size w w' := by
  go_enter Tryd.func41, Tryd.ntmps41
  refine wp_seq ?_
  refine wp_region_L (W0 := w) [] (KS.start w) ?_
  refine lm (v := .int .i64 0) rfl rfl ?_
  refine wpL_done (fun W1 hW1 => ?_)
  refine (show Code.wp _ _ _ _ _ from ?_)
  refine wp_seq ?_
  refine wp_seq ?_
  refine wp_region_L (W0 := w) [] (hW1) ?_
  refine lm (v := strV l) rfl rfl ?_
  refine lv (v := .bool (fitB l 11)) rfl rfl (yb_call (f := 45) (args := #[strV l, .int .i64 11]) (fun _ => by kernel_rfl) fun W hW => fits_any l 11 (by omega) W) ?_
  refine lp (v := .bool (!(fitB l 11))) rfl rfl (run_un rfl (by kernel_rfl) fun w => un_not w) ?_
  refine wpL_done (fun W2 hW2 => ?_)
  refine (show Code.wp _ _ _ _ _ from ?_)
  cases h1 : (fitB l 11) with
  | false =>
    refine wp_cond_true rfl ?_
    refine wp_seq ?_
    refine wp_region_L (W0 := w) [] (hW2) ?_
    refine lm (v := .int .i64 30) rfl rfl ?_
    refine wpL_done (fun W3 hW3 => ?_)
    refine (show Code.wp _ _ _ _ _ from ?_)
    refine wp_ret ?_
    try simp only [inBlock_ret, then_ret]
    refine bodyPost_ret (v := .int .i64 30) ?_ rfl ?_
    · kernel_rfl
    · exact ⟨(int_is (m := 30) (by unfold judgeN; simp [*])), hW3.1⟩
  | true =>
    have hlen := fit_len h1
    refine wp_cond_false rfl ?_
    refine wp_skip ?_
    refine (show Code.wp _ _ _ _ _ from ?_)
    refine wp_seq ?_
    refine wp_seq ?_
    refine wp_region_L (W0 := w) [] (hW2) ?_
    refine lm (v := strV l) rfl rfl ?_
    refine lv (v := .bool (agrB l)) rfl rfl (yb_call (f := 43) (args := #[strV l]) (fun _ => by kernel_rfl) fun W hW => agrees_any l (by omega) W) ?_
    refine lp (v := .bool (!(agrB l))) rfl rfl (run_un rfl (by kernel_rfl) fun w => un_not w) ?_
    refine wpL_done (fun W4 hW4 => ?_)
    refine (show Code.wp _ _ _ _ _ from ?_)
    cases h2 : (agrB l) with
    | false =>
      refine wp_cond_true rfl ?_
      refine wp_seq ?_
      refine wp_region_L (W0 := w) [] (hW4) ?_
      refine lm (v := .int .i64 31) rfl rfl ?_
      refine wpL_done (fun W5 hW5 => ?_)
      refine (show Code.wp _ _ _ _ _ from ?_)
      refine wp_ret ?_
      try simp only [inBlock_ret, then_ret]
      refine bodyPost_ret (v := .int .i64 31) ?_ rfl ?_
      · kernel_rfl
      · exact ⟨(int_is (m := 31) (by unfold judgeN; simp [*])), hW5.1⟩
    | true =>
      refine wp_cond_false rfl ?_
      refine wp_skip ?_
      refine (show Code.wp _ _ _ _ _ from ?_)
      refine wp_seq ?_
      refine wp_region_L (W0 := w) [] (hW4) ?_
      refine lm (v := .int .i64 0) rfl rfl ?_
      refine wpL_done (fun W6 hW6 => ?_)
      refine (show Code.wp _ _ _ _ _ from ?_)
      refine wp_ret ?_
      try simp only [inBlock_ret, then_ret]
      refine bodyPost_ret (v := .int .i64 0) ?_ rfl ?_
      · kernel_rfl
      · exact ⟨(int_is (m := 0) (by unfold judgeN; simp [*])), hW6.1⟩
set_option maxRecDepth 100000 in
set_option maxHeartbeats 4000000 in
theorem Check_any (l : List UInt8) (w : World) : Calls Tryd.prog 24 #[strV l] w fun e w' => e = .returned ((if fitB l 10 = true then .tuple #[.int .u8 (((chkN l) : Nat) : Int), .int .i64 0] else .tuple #[.int .u8 0, .int .i64 30])) ∧ Below w.heap.size w w' := by
  go_enter Tryd.func24, Tryd.ntmps24
  refine wp_seq ?_
  refine wp_region_L (W0 := w) [] (KS.start w) ?_
  refine lm (v := .int .u8 0) rfl rfl ?_
  refine lm (v := .int .i64 0) rfl rfl ?_
  refine wpL_done (fun W1 hW1 => ?_)
  refine (show Code.wp _ _ _ _ _ from ?_)
  refine wp_seq ?_
  refine wp_seq ?_
  refine wp_region_L (W0 := w) [] (hW1) ?_
  refine lm (v := strV l) rfl rfl ?_
  refine lv (v := .bool (fitB l 10)) rfl rfl (yb_call (f := 45) (args := #[strV l, .int .i64 10]) (fun _ => by kernel_rfl) fun W hW => fits_any l 10 (by omega) W) ?_
  refine lp (v := .bool (!(fitB l 10))) rfl rfl (run_un rfl (by kernel_rfl) fun w => un_not w) ?_
  refine wpL_done (fun W2 hW2 => ?_)
  refine (show Code.wp _ _ _ _ _ from ?_)
  cases h1 : (fitB l 10) with
  | false =>
    refine wp_cond_true rfl ?_
    refine wp_seq ?_
    refine wp_region_L (W0 := w) [] (hW2) ?_
    refine lm (v := .int .u8 0) rfl rfl ?_
    refine lm (v := .int .i64 30) rfl rfl ?_
    refine wpL_done (fun W3 hW3 => ?_)
    refine (show Code.wp _ _ _ _ _ from ?_)
    refine wp_ret ?_
    try simp only [inBlock_ret, then_ret]
    refine bodyPost_ret (v := .tuple #[.int .u8 0, .int .i64 30]) ?_ rfl ?_
    · kernel_rfl
    · exact ⟨(by simp), hW3.1⟩
  | true =>
    have hlen := fit_len h1
    refine wp_cond_false rfl ?_
    refine wp_skip ?_
    refine (show Code.wp _ _ _ _ _ from ?_)
    refine wp_seq ?_
    refine wp_region_L (W0 := w) [] (hW2) ?_
    refine lm (v := strV l) rfl rfl ?_
    refine lv (v := .int .u8 (((chkN l) : Nat) : Int)) rfl rfl (yb_call (f := 46) (args := #[strV l]) (fun _ => by kernel_rfl) fun W hW => checkDigit_any l (by omega) W) ?_
    refine lm (v := .int .u8 (((chkN l) : Nat) : Int)) rfl rfl ?_
    refine lm (v := .int .i64 0) rfl rfl ?_
    refine wpL_done (fun W4 hW4 => ?_)
    refine (show Code.wp _ _ _ _ _ from ?_)
    refine wp_ret ?_
    try simp only [inBlock_ret, then_ret]
    refine bodyPost_ret (v := .tuple #[.int .u8 (((chkN l) : Nat) : Int), .int .i64 0]) ?_ rfl ?_
    · kernel_rfl
    · exact ⟨(by simp), hW4.1⟩
set_option maxRecDepth 100000 in
set_option maxHeartbeats 4000000 in
theorem Right_any (l : List UInt8) (w : World) : Calls Tryd.prog 18 #[strV l] w fun e w' => e = .returned (.bool (decide (judgeN l = 0))) ∧ Below w.heap.size w w' := by
  go_enter Tryd.func18, Tryd.ntmps18
  refine wp_seq ?_
  refine wp_region_L (W0 := w) [] (KS.start w) ?_
  refine lm (v := .bool false) rfl rfl ?_
  refine wpL_done (fun W1 hW1 => ?_)
  refine (show Code.wp _ _ _ _ _ from ?_)
  refine wp_seq ?_
  refine wp_region_L (W0 := w) [] (hW1) ?_
  refine lm (v := strV l) rfl rfl ?_
  refine lv (v := .int .i64 (((judgeN l) : Nat) : Int)) rfl rfl (yb_call (f := 41) (args := #[strV l]) (fun _ => by kernel_rfl) fun W hW => judge_any l W) ?_
  refine lp (v := .bool (decide ((judgeN l) = 0))) rfl rfl (run_bin rfl (vx := (.int .i64 (((judgeN l) : Nat) : Int))) (vy := (.int .i64 ((0 : Nat) : Int))) (by kernel_rfl) (by kernel_rfl) fun w => bn_eql rfl w) ?_
  refine lm (v := .bool (decide ((judgeN l) = 0))) rfl rfl ?_
  refine wpL_done (fun W2 hW2 => ?_)
  refine (show Code.wp _ _ _ _ _ from ?_)
  refine wp_ret ?_
  try simp only [inBlock_ret, then_ret]
  refine bodyPost_ret (v := .bool (decide ((judgeN l) = 0))) ?_ rfl ?_
  · kernel_rfl
  · exact ⟨rfl, hW2.1⟩
set_option maxRecDepth 100000 in
set_option maxHeartbeats 4000000 in
theorem Write_any (l : List UInt8) (w : World) : Calls Tryd.prog 22 #[strV l] w fun e w' => e = .returned ((if judgeN l = 0 then .tuple #[strV (l.take 4 ++ [32] ++ (l.take 10).drop 4 ++ [32] ++ l.drop 10), .int .i64 0] else .tuple #[strV [], .int .i64 (((judgeN l) : Nat) : Int)])) ∧ Below w.heap.size w w' := by
  go_enter Tryd.func22, Tryd.ntmps22
  refine wp_seq ?_
  refine wp_region_L (W0 := w) [] (KS.start w) ?_
  refine lm (v := strV []) rfl rfl ?_
  refine lm (v := .int .i64 0) rfl rfl ?_
  refine wpL_done (fun W1 hW1 => ?_)
  refine (show Code.wp _ _ _ _ _ from ?_)
  refine wp_seq ?_
  refine wp_seq ?_
  refine wp_region_L (W0 := w) [] (hW1) ?_
  refine lm (v := strV l) rfl rfl ?_
  refine lv (v := .int .i64 (((judgeN l) : Nat) : Int)) rfl rfl (yb_call (f := 41) (args := #[strV l]) (fun _ => by kernel_rfl) fun W hW => judge_any l W) ?_
  refine lm (v := .int .i64 (((judgeN l) : Nat) : Int)) rfl rfl ?_
  refine wpL_done (fun W2 hW2 => ?_)
  refine (show Code.wp _ _ _ _ _ from ?_)
  refine wp_seq ?_
  refine wp_region_L (W0 := w) [] (hW2) ?_
  refine lm (v := .int .i64 (((judgeN l) : Nat) : Int)) rfl rfl ?_
  refine lp (v := .bool (!(decide ((judgeN l) = 0)))) rfl rfl (run_bin rfl (vx := (.int .i64 (((judgeN l) : Nat) : Int))) (vy := (.int .i64 ((0 : Nat) : Int))) (by kernel_rfl) (by kernel_rfl) fun w => bn_neq rfl w) ?_
  refine wpL_done (fun W3 hW3 => ?_)
  refine (show Code.wp _ _ _ _ _ from ?_)
  cases hd1 : (decide ((judgeN l) = 0)) with
  | false =>
    have h1 : ¬ ((judgeN l) = 0) := of_decide_eq_false hd1
    clear hd1
    refine wp_cond_true rfl ?_
    refine wp_seq ?_
    refine wp_region_L (W0 := w) [] (hW3) ?_
    refine lm (v := .int .i64 (((judgeN l) : Nat) : Int)) rfl rfl ?_
    refine lm (v := strV []) rfl rfl ?_
    refine lm (v := .int .i64 (((judgeN l) : Nat) : Int)) rfl rfl ?_
    refine wpL_done (fun W4 hW4 => ?_)
    refine (show Code.wp _ _ _ _ _ from ?_)
    refine wp_ret ?_
    try simp only [inBlock_ret, then_ret]
    refine bodyPost_ret (v := .tuple #[strV [], .int .i64 (((judgeN l) : Nat) : Int)]) ?_ rfl ?_
    · kernel_rfl
    · exact ⟨(by rw [if_neg h1]), hW4.1⟩
  | true =>
    have h1 : (judgeN l) = 0 := of_decide_eq_true hd1
    clear hd1
    have hlen := judge_len h1
    refine wp_cond_false rfl ?_
    refine wp_skip ?_
    refine (show Code.wp _ _ _ _ _ from ?_)
    refine wp_seq ?_
    refine wp_region_V (W0 := w) [] (by kernel_rfl) (hW3) ?_
    refine vm (i := 0) (v := strV l) rfl rfl rfl ?_
    refine vp (i := 1) (v := strV (l.take 4)) rfl rfl rfl (run_slH (k2 := .i64) (l := l) (r := (l.take 4)) (j := 4) rfl Tryd.underlying9 (by kernel_rfl) (by kernel_rfl) (by first | omega | (simp; omega)) rfl) ?_
    refine vp (i := 2) (v := strV ((l.take 4) ++ [32])) rfl rfl rfl (run_bin rfl (vx := strV (l.take 4)) (vy := strV [32]) (by kernel_rfl) (by kernel_rfl) fun w => bs_add (c := ((l.take 4) ++ [32])) rfl (by simp; omega) w) ?_
    refine vm (i := 3) (v := strV l) rfl rfl rfl ?_
    refine vp (i := 4) (v := strV ((l.take 10).drop 4)) rfl rfl rfl (run_slT (k1 := .i64) (k2 := .i64) (l := l) (r := ((l.take 10).drop 4)) (i := 4) (j := 10) rfl Tryd.underlying9 (by kernel_rfl) (by kernel_rfl) (by kernel_rfl) (by omega) (by first | omega | (simp; omega)) rfl) ?_
    refine vp (i := 5) (v := strV (((l.take 4) ++ [32]) ++ ((l.take 10).drop 4))) rfl rfl rfl (run_bin rfl (vx := strV ((l.take 4) ++ [32])) (vy := strV ((l.take 10).drop 4)) (by kernel_rfl) (by kernel_rfl) fun w => bs_add (c := (((l.take 4) ++ [32]) ++ ((l.take 10).drop 4))) rfl (by simp; omega) w) ?_
    refine vp (i := 6) (v := strV ((((l.take 4) ++ [32]) ++ ((l.take 10).drop 4)) ++ [32])) rfl rfl rfl (run_bin rfl (vx := strV (((l.take 4) ++ [32]) ++ ((l.take 10).drop 4))) (vy := strV [32]) (by kernel_rfl) (by kernel_rfl) fun w => bs_add (c := ((((l.take 4) ++ [32]) ++ ((l.take 10).drop 4)) ++ [32])) rfl (by simp; omega) w) ?_
    refine vm (i := 7) (v := strV l) rfl rfl rfl ?_
    refine vp (i := 8) (v := strV (l.drop 10)) rfl rfl rfl (run_slL (k1 := .i64) (l := l) (r := (l.drop 10)) (i := 10) rfl Tryd.underlying9 (by kernel_rfl) (by kernel_rfl) (by first | omega | (simp; omega)) rfl) ?_
    refine vp (i := 9) (v := strV (((((l.take 4) ++ [32]) ++ ((l.take 10).drop 4)) ++ [32]) ++ (l.drop 10))) rfl rfl rfl (run_bin rfl (vx := strV ((((l.take 4) ++ [32]) ++ ((l.take 10).drop 4)) ++ [32])) (vy := strV (l.drop 10)) (by kernel_rfl) (by kernel_rfl) fun w => bs_add (c := (((((l.take 4) ++ [32]) ++ ((l.take 10).drop 4)) ++ [32]) ++ (l.drop 10))) rfl (by simp; omega) w) ?_
    refine vm (i := 10) (v := strV (((((l.take 4) ++ [32]) ++ ((l.take 10).drop 4)) ++ [32]) ++ (l.drop 10))) rfl rfl rfl ?_
    refine vm (i := 11) (v := .int .i64 0) rfl rfl rfl ?_
    refine wpV_done (by kernel_rfl) (fun W5 hW5 => ?_) _
    refine (show Code.wp _ _ _ _ _ from ?_)
    refine wp_ret ?_
    try simp only [inBlock_ret, then_ret]
    refine bodyPost_ret (v := .tuple #[strV (((((l.take 4) ++ [32]) ++ ((l.take 10).drop 4)) ++ [32]) ++ (l.drop 10)), .int .i64 0]) ?_ rfl ?_
    · kernel_rfl
    · exact ⟨(by rw [if_pos h1]), hW5.1⟩
end Go.Proofs.YtbceajgipmjmlaaDoor
namespace Go.Proofs.YtbceajgipmjmlaaDoor
open Go Go.RowKit Tw
theorem strip_keep {l : List UInt8} {k : Nat} {b : UInt8} (h : l[k]? = some b) (h1 : ¬ (b.toNat = 32)) (h2 : ¬ (b.toNat = 45)) : stripL (l.take (k + 1)) = stripL (l.take k) ++ [up b] := by
  rw [take_snoc h, strip_app, strip_one, if_neg (by unfold blankB; simp [h1, h2])]
theorem strip_skip {l : List UInt8} {k : Nat} {b : UInt8} (h : l[k]? = some b) (h1 : b.toNat = 32 ∨ b.toNat = 45) : stripL (l.take (k + 1)) = stripL (l.take k) := by
  rw [take_snoc h, strip_app, strip_one, if_pos (by unfold blankB; simp [h1]), List.append_nil]
theorem own_snoc {W0 : Base} {E : TypeId} {v : Value} {s s' : List UInt8} {K : List (Nat × Obj)} {x : Nat} {b : UInt8} (h : OwnL W0 E 1 v (s.length + 1) (u8s s ++ [.int .u8 ((x : Nat) : Int)]) K) (hx : x = b.toNat) (hs : s' = s ++ [b]) : OwnL W0 E 1 v s'.length (u8s s') K := by
  subst hs hx
  rw [u8s_app, List.length_append]
  exact h
theorem up_no {b : UInt8} (h : b.toNat < 97 ∨ 122 < b.toNat) : b.toNat = (up b).toNat := by unfold up; rw [if_neg (by omega)]
theorem up_yes {b : UInt8} (h : 97 ≤ b.toNat) (h2 : b.toNat ≤ 122) : b.toNat - 32 = (up b).toNat := by
  unfold up; rw [if_pos ⟨h, h2⟩, UInt8.toNat_ofNat']; omega
theorem el_u8 : Elem Tryd.prog 31 5 1 1 (.int .u8 0) := Elem.mk' Tryd.underlying31 (by kernel_rfl) rfl
theorem el_miss : Elem Tryd.prog 37 42 2 16 (.agg #[.int .i64 0, .int .u8 0]) := Elem.mk' Tryd.underlying37 (by kernel_rfl) rfl
def readL (l : List UInt8) : List UInt8 := if 40 < l.length then [] else if judgeN (stripL l) = 0 then stripL l else []
def readE (l : List UInt8) : Nat := if 40 < l.length then 3 else judgeN (stripL l)
def hitB (l : List UInt8) (i : Nat) (b : UInt8) : Bool := !decide (b.toNat = (l.getD i 0).toNat) && mayB i b && agrB (l.set i b)
def rowM (l : List UInt8) (i k : Nat) : List (Nat × UInt8) := (((List.range k).map UInt8.ofNat).filter (hitB l i)).map fun b => (i, b)
def missTo (l : List UInt8) (i : Nat) : List (Nat × UInt8) := (List.range i).flatMap fun i => rowM l i 256
def missL (l : List UInt8) : List (Nat × UInt8) := missTo l 11
def missOf (l : List UInt8) : List (Nat × UInt8) := if judgeN l = 0 then missL l else []
def mcells (m : List (Nat × UInt8)) : List Value := m.flatMap fun x => [.int .i64 ((x.1 : Nat) : Int), .int .u8 ((x.2.toNat : Nat) : Int)]
theorem rowM_succ (l : List UInt8) (i k : Nat) : rowM l i (k + 1) = rowM l i k ++ if hitB l i (UInt8.ofNat k) = true then [(i, UInt8.ofNat k)] else [] := by
  unfold rowM
  rw [List.range_succ, List.map_append, List.filter_append, List.map_append]
  congr 1
  cases h : hitB l i (UInt8.ofNat k) <;> simp [List.filter_cons, h]
theorem ofNat_toNat {b : UInt8} {k : Nat} (h : b.toNat = k) : UInt8.ofNat k = b := by rw [← h]; simp
theorem acc_hit {l : List UInt8} {i k : Nat} {b : UInt8} (hb : b.toNat = k) (h : hitB l i b = true) : missTo l i ++ rowM l i (k + 1) = (missTo l i ++ rowM l i k) ++ [(i, b)] := by
  rw [rowM_succ, ofNat_toNat hb, if_pos h, List.append_assoc]
theorem acc_no {l : List UInt8} {i k : Nat} {b : UInt8} (hb : b.toNat = k) (h : hitB l i b = false) : missTo l i ++ rowM l i (k + 1) = missTo l i ++ rowM l i k := by
  rw [rowM_succ, ofNat_toNat hb, if_neg (by rw [h]; decide), List.append_nil]
theorem missTo_succ (l : List UInt8) (i : Nat) : missTo l (i + 1) = missTo l i ++ rowM l i 256 := by
  unfold missTo; rw [List.range_succ, List.flatMap_append]; simp
theorem rowM_len (l : List UInt8) (i k : Nat) : (rowM l i k).length ≤ k := by
  unfold rowM; rw [List.length_map]; exact Nat.le_trans (List.length_filter_le _ _) (by simp)
theorem missTo_len (l : List UInt8) : ∀ i, (missTo l i).length ≤ 256 * i
  | 0 => by simp [missTo]
  | i + 1 => by rw [missTo_succ, List.length_append]; have := missTo_len l i; have := rowM_len l i 256; omega
theorem own_miss {W0 : Base} {E : TypeId} {v : Value} {s s' : List (Nat × UInt8)} {K : List (Nat × Obj)} {i : Nat} {b : UInt8} (h : OwnL W0 E 2 v (s.length + 1) (mcells s ++ [.int .i64 ((i : Nat) : Int), .int .u8 ((b.toNat : Nat) : Int)]) K) (hs : s' = s ++ [(i, b)]) : OwnL W0 E 2 v s'.length (mcells s') K := by
  subst hs
  rw [List.length_append]
  unfold mcells at *
  rw [List.flatMap_append]
  exact h
theorem hit_eq {l : List UInt8} {i : Nat} {b c : UInt8} (hb : l[i]? = some b) (h : c.toNat = b.toNat) : hitB l i c = false := by unfold hitB; rw [List.getD_eq_getElem?_getD, hb]; simp [h]
theorem hit_may {l : List UInt8} {i : Nat} {c : UInt8} (h : mayB i c = false) : hitB l i c = false := by unfold hitB; simp [h]
theorem hit_agr {l : List UInt8} {i : Nat} {c : UInt8} (h : agrB (l.set i c) = false) : hitB l i c = false := by unfold hitB; simp [h]
theorem hit_yes {l : List UInt8} {i : Nat} {b c : UInt8} (hb : l[i]? = some b) (h : ¬ (c.toNat = b.toNat)) (h2 : mayB i c = true) (h3 : agrB (l.set i c) = true) : hitB l i c = true := by unfold hitB; rw [List.getD_eq_getElem?_getD, hb]; simp [h, h2, h3]
theorem set_same {l : List UInt8} {i : Nat} {b : UInt8} (h : l[i]? = some b) : l.set i b = l := by
  obtain ⟨hi, rfl⟩ := List.getElem?_eq_some_iff.1 h
  exact List.set_getElem_self hi
theorem set_back {l : List UInt8} {i : Nat} {x b : UInt8} (h : l[i]? = some b) : (l.set i x).set i b = l := by rw [List.set_set, set_same h]
theorem getD_some {l : List UInt8} {i : Nat} {b : UInt8} (h : l[i]? = some b) : l.getD i 0 = b := by rw [List.getD_eq_getElem?_getD, h]; rfl
set_option maxRecDepth 100000 in
set_option maxHeartbeats 4000000 in
theorem strip_any (l : List UInt8) (hl : l.length ≤ 1000000) (w : World) : Calls Tryd.prog 44 #[strV l] w fun e w' => e = .returned (strV (stripL l)) ∧ Below w.heap.size w w' := by
  go_enter Tryd.func44, Tryd.ntmps44
  refine wp_seq ?_
  refine wp_region_L (W0 := w) [] (KS.start w) ?_
  refine lm (v := strV []) rfl rfl ?_
  refine wpL_done (fun W1 hW1 => ?_)
  refine (show Code.wp _ _ _ _ _ from ?_)
  refine wp_seq ?_
  refine wp_region_L (W0 := w) [] (hW1) ?_
  refine lm (v := .slice none 0 0) rfl rfl ?_
  refine wpL_done (fun W2 hW2 => ?_)
  refine (show Code.wp _ _ _ _ _ from ?_)
  refine wp_seq ?_
  refine wp_seq ?_
  refine wp_region_L (W0 := w) [] (hW2) ?_
  refine lm (v := strV l) rfl rfl ?_
  refine lp (v := .int .i64 ((l.length : Nat) : Int)) rfl rfl (run_lenS (l := l) rfl Tryd.underlying9 (by kernel_rfl)) ?_
  refine lm (v := .int .i64 0) rfl rfl ?_
  refine wpL_done (fun W3 hW3 => ?_)
  refine (show Code.wp _ _ _ _ _ from ?_)
  refine wp_block ?_
  go_loopw [3, 8] (fun u3 u8 wr => ∃ (k : Nat) (va : Value) (Kl : List (Nat × Obj)), (k ≤ l.length) ∧ (OwnL w 5 1 va (stripL (l.take k)).length (u8s (stripL (l.take k))) Kl) ∧ va = u3 ∧ u8 = .int .i64 ((k : Nat) : Int) ∧ KS w Kl wr) (fun _ u8 _ => l.length - (intOf u8).toNat)
  case atStart => exact ⟨0, (.slice none 0 0), [], (Nat.zero_le _), (OwnL.nil _ _ _), rfl, rfl, (hW3.sub (fun p hp => hp))⟩
  case round =>
    obtain ⟨k, va, Kl, hk, hO, rfl, rfl, hL4⟩ := hrel
    have hsl : (stripL (l.take k)).length ≤ k := Nat.le_trans (strip_len _) (List.length_take_le _ _)
    refine wp_seq ?_
    refine wp_region_L (W0 := w) Kl (hL4) ?_
    refine lp (v := .bool (decide (k < l.length))) rfl rfl (run_bin rfl (vx := (.int .i64 ((k : Nat) : Int))) (vy := (.int .i64 ((l.length : Nat) : Int))) (by kernel_rfl) (by kernel_rfl) fun w => bn_lss rfl w) ?_
    refine wpL_done (fun W5 hW5 => ?_)
    refine (show Code.wp _ _ _ _ _ from ?_)
    refine wp_seq ?_
    cases hd1 : (decide (k < l.length)) with
    | false =>
      have h1 : ¬ (k < l.length) := of_decide_eq_false hd1
      clear hd1
      have hlk : l.take k = l := List.take_of_length_le (by omega)
      rw [hlk] at hO
      refine wp_cond_false rfl ?_
      refine wp_exit ?_
      refine (show Code.wp _ _ _ _ _ from ?_)
      refine wp_seq ?_
      refine wp_region_L (W0 := w) Kl (hW5) ?_
      refine lm (v := va) rfl rfl ?_
      refine lv (v := strV (stripL l)) rfl rfl (yb_strO (W0 := w) (l := (stripL l)) rfl Tryd.underlying31 Tryd.underlying5 Tryd.underlying9 (by kernel_rfl) hO (fun p hp => hp)) ?_
      refine lm (v := strV (stripL l)) rfl rfl ?_
      refine wpL_done (fun W6 hW6 => ?_)
      refine (show Code.wp _ _ _ _ _ from ?_)
      refine wp_ret ?_
      try simp only [inBlock_ret, then_ret]
      refine bodyPost_ret (v := strV (stripL l)) ?_ rfl ?_
      · kernel_rfl
      · exact ⟨rfl, hW6.1⟩
    | true =>
      have h1 : k < l.length := of_decide_eq_true hd1
      clear hd1
      refine wp_cond_true rfl ?_
      refine wp_skip ?_
      refine (show Code.wp _ _ _ _ _ from ?_)
      refine wp_seq ?_
      refine wp_block ?_
      refine wp_seq ?_
      refine wp_region_L (W0 := w) Kl (hW5) ?_
      refine lm (v := .int .i64 ((k : Nat) : Int)) rfl rfl ?_
      refine lm (v := .int .i64 ((k : Nat) : Int)) rfl rfl ?_
      refine wpL_done (fun W7 hW7 => ?_)
      refine (show Code.wp _ _ _ _ _ from ?_)
      refine wp_seq ?_
      refine wp_region_L (W0 := w) Kl (hW7) ?_
      refine lm (v := strV l) rfl rfl ?_
      refine lm (v := .int .i64 ((k : Nat) : Int)) rfl rfl ?_
      obtain ⟨b1, hb1⟩ : ∃ b, l[k]? = some b := ⟨_, List.getElem?_eq_getElem (by omega)⟩
      have lb1 := b1.toNat_lt
      refine lp (v := .int .u8 ((b1.toNat : Nat) : Int)) rfl rfl (run_idxS (j := .i64) (l := l) (k := k) (b := b1) rfl Tryd.underlying9 (by kernel_rfl) (by kernel_rfl) hb1) ?_
      refine lm (v := .int .u8 ((b1.toNat : Nat) : Int)) rfl rfl ?_
      refine wpL_done (fun W8 hW8 => ?_)
      refine (show Code.wp _ _ _ _ _ from ?_)
      refine wp_seq ?_
      refine wp_seq ?_
      refine wp_region_L (W0 := w) Kl (hW8) ?_
      refine lm (v := .int .u8 ((b1.toNat : Nat) : Int)) rfl rfl ?_
      refine lp (v := .bool (decide (b1.toNat = 32))) rfl rfl (run_bin rfl (vx := (.int .u8 ((b1.toNat : Nat) : Int))) (vy := (.int .u8 ((32 : Nat) : Int))) (by kernel_rfl) (by kernel_rfl) fun w => bn_eql rfl w) ?_
      refine lm (v := .bool (decide (b1.toNat = 32))) rfl rfl ?_
      cases hd2 : (decide (b1.toNat = 32)) with
      | false =>
        have h2 : ¬ (b1.toNat = 32) := of_decide_eq_false hd2
        clear hd2
        refine lm (v := .int .u8 ((b1.toNat : Nat) : Int)) rfl rfl ?_
        refine lp (v := .bool (decide (b1.toNat = 45))) rfl rfl (run_bin rfl (vx := (.int .u8 ((b1.toNat : Nat) : Int))) (vy := (.int .u8 ((45 : Nat) : Int))) (by kernel_rfl) (by kernel_rfl) fun w => bn_eql rfl w) ?_
        refine lm (v := .bool (decide (b1.toNat = 45))) rfl rfl ?_
        refine wpL_done (fun W9 hW9 => ?_)
        refine (show Code.wp _ _ _ _ _ from ?_)
        cases hd3 : (decide (b1.toNat = 45)) with
        | false =>
          have h3 : ¬ (b1.toNat = 45) := of_decide_eq_false hd3
          clear hd3
          refine wp_cond_false rfl ?_
          refine wp_skip ?_
          refine (show Code.wp _ _ _ _ _ from ?_)
          refine wp_seq ?_
          refine wp_seq ?_
          refine wp_region_L (W0 := w) Kl (hW9) ?_
          refine lm (v := .int .u8 ((b1.toNat : Nat) : Int)) rfl rfl ?_
          refine lp (v := .bool (!(decide (b1.toNat < 97)))) rfl rfl (run_bin rfl (vx := (.int .u8 ((97 : Nat) : Int))) (vy := (.int .u8 ((b1.toNat : Nat) : Int))) (by kernel_rfl) (by kernel_rfl) fun w => bn_leq rfl w) ?_
          refine lm (v := .bool (!(decide (b1.toNat < 97)))) rfl rfl ?_
          cases hd4 : (decide (b1.toNat < 97)) with
          | false =>
            have h4 : ¬ (b1.toNat < 97) := of_decide_eq_false hd4
            clear hd4
            refine lm (v := .int .u8 ((b1.toNat : Nat) : Int)) rfl rfl ?_
            refine lp (v := .bool (!(decide (122 < b1.toNat)))) rfl rfl (run_bin rfl (vx := (.int .u8 ((b1.toNat : Nat) : Int))) (vy := (.int .u8 ((122 : Nat) : Int))) (by kernel_rfl) (by kernel_rfl) fun w => bn_leq rfl w) ?_
            refine lm (v := .bool (!(decide (122 < b1.toNat)))) rfl rfl ?_
            refine wpL_done (fun W10 hW10 => ?_)
            refine (show Code.wp _ _ _ _ _ from ?_)
            cases hd5 : (decide (122 < b1.toNat)) with
            | false =>
              have h5 : ¬ (122 < b1.toNat) := of_decide_eq_false hd5
              clear hd5
              refine wp_cond_true rfl ?_
              refine wp_region_L (W0 := w) Kl (hW10) ?_
              refine lm (v := .int .u8 ((b1.toNat : Nat) : Int)) rfl rfl ?_
              refine lp (v := .int .u8 (((b1.toNat - 32) : Nat) : Int)) rfl rfl (run_bin rfl (vx := (.int .u8 ((b1.toNat : Nat) : Int))) (vy := (.int .u8 ((32 : Nat) : Int))) (by kernel_rfl) (by kernel_rfl) fun w => bn_sub (z := (b1.toNat - 32)) rfl (by omega) (wr_u8 (by omega)) w) ?_
              refine lm (v := .int .u8 (((b1.toNat - 32) : Nat) : Int)) rfl rfl ?_
              refine wpL_done (fun W11 hW11 => ?_)
              refine (show Code.wp _ _ _ _ _ from ?_)
              refine wp_region_L (W0 := w) Kl (hW11) ?_
              refine lm (v := va) rfl rfl ?_
              refine lm (v := .int .u8 (((b1.toNat - 32) : Nat) : Int)) rfl rfl ?_
              refine wpL_new (fun g => .slice (some ⟨g, 0, none⟩) 1 1) (obi := .cells #[.int .u8 (((b1.toNat - 32) : Nat) : Int)] 5 (0, 0)) rfl rfl (fun _ => by kernel_rfl) (fun _ => by simp only [List.setIfInBounds_toArray, List.set_cons_succ, List.set_cons_zero] <;> rfl) fun g2 Bg2 Fg2 => ?_
              refine wpL_g (AppO w 5 1 [] (((stripL (l.take k)).length) + 1) ((u8s (stripL (l.take k))) ++ [.int .u8 (((b1.toNat - 32) : Nat) : Int)])) rfl rfl (app_own el_u8 (m := 1) (c := 1) (news := [.int .u8 (((b1.toNat - 32) : Nat) : Int)]) rfl (by kernel_rfl) (by kernel_rfl) (.head _) hO (fun p hp => (.tail _ hp)) (List.forall_mem_nil _) rfl (by simp [Value.oneCell']) (by omega) (by omega) (by omega)) (fun _ => by simp only [List.setIfInBounds_toArray, List.set_cons_succ, List.set_cons_zero] <;> rfl) ?_
              rintro v3 Kl3 ⟨_, O3, N3, rfl⟩
              refine lm (v := v3) rfl rfl ?_
              refine wpL_done (fun W12 hW12 => ?_)
              refine (show Code.wp _ _ _ _ _ from ?_)
              refine wp_region_L (W0 := w) Kl3 (hW12) ?_
              refine lp (v := .int .i64 (((k + 1) : Nat) : Int)) rfl rfl (run_bin rfl (vx := (.int .i64 ((k : Nat) : Int))) (vy := (.int .i64 ((1 : Nat) : Int))) (by kernel_rfl) (by kernel_rfl) fun w => bn_add (z := (k + 1)) rfl (wr_i64 (by omega)) w) ?_
              refine lm (v := .int .i64 (((k + 1) : Nat) : Int)) rfl rfl ?_
              refine wpL_done (fun W13 hW13 => ?_)
              go_roundw
              case rel =>
                repeat apply Exists.intro
                exact ⟨⟨k + 1, v3, Kl3, (by omega), (own_snoc O3 (up_yes (by omega) (by omega)) (strip_keep hb1 (by omega) (by omega))), rfl, rfl, hW13⟩, rfl⟩
              case measure => (show l.length - (intOf (.int .i64 (((k + 1) : Nat) : Int))).toNat < l.length - (intOf (.int .i64 ((k : Nat) : Int))).toNat); simp only [intOf]; omega
            | true =>
              have h5 : 122 < b1.toNat := of_decide_eq_true hd5
              clear hd5
              refine wp_cond_false rfl ?_
              refine wp_skip ?_
              refine (show Code.wp _ _ _ _ _ from ?_)
              refine wp_region_L (W0 := w) Kl (hW10) ?_
              refine lm (v := va) rfl rfl ?_
              refine lm (v := .int .u8 ((b1.toNat : Nat) : Int)) rfl rfl ?_
              refine wpL_new (fun g => .slice (some ⟨g, 0, none⟩) 1 1) (obi := .cells #[.int .u8 ((b1.toNat : Nat) : Int)] 5 (0, 0)) rfl rfl (fun _ => by kernel_rfl) (fun _ => by simp only [List.setIfInBounds_toArray, List.set_cons_succ, List.set_cons_zero] <;> rfl) fun g4 Bg4 Fg4 => ?_
              refine wpL_g (AppO w 5 1 [] (((stripL (l.take k)).length) + 1) ((u8s (stripL (l.take k))) ++ [.int .u8 ((b1.toNat : Nat) : Int)])) rfl rfl (app_own el_u8 (m := 1) (c := 1) (news := [.int .u8 ((b1.toNat : Nat) : Int)]) rfl (by kernel_rfl) (by kernel_rfl) (.head _) hO (fun p hp => (.tail _ hp)) (List.forall_mem_nil _) rfl (by simp [Value.oneCell']) (by omega) (by omega) (by omega)) (fun _ => by simp only [List.setIfInBounds_toArray, List.set_cons_succ, List.set_cons_zero] <;> rfl) ?_
              rintro v5 Kl5 ⟨_, O5, N5, rfl⟩
              refine lm (v := v5) rfl rfl ?_
              refine wpL_done (fun W14 hW14 => ?_)
              refine (show Code.wp _ _ _ _ _ from ?_)
              refine wp_region_L (W0 := w) Kl5 (hW14) ?_
              refine lp (v := .int .i64 (((k + 1) : Nat) : Int)) rfl rfl (run_bin rfl (vx := (.int .i64 ((k : Nat) : Int))) (vy := (.int .i64 ((1 : Nat) : Int))) (by kernel_rfl) (by kernel_rfl) fun w => bn_add (z := (k + 1)) rfl (wr_i64 (by omega)) w) ?_
              refine lm (v := .int .i64 (((k + 1) : Nat) : Int)) rfl rfl ?_
              refine wpL_done (fun W15 hW15 => ?_)
              go_roundw
              case rel =>
                repeat apply Exists.intro
                exact ⟨⟨k + 1, v5, Kl5, (by omega), (own_snoc O5 (up_no (by omega)) (strip_keep hb1 (by omega) (by omega))), rfl, rfl, hW15⟩, rfl⟩
              case measure => (show l.length - (intOf (.int .i64 (((k + 1) : Nat) : Int))).toNat < l.length - (intOf (.int .i64 ((k : Nat) : Int))).toNat); simp only [intOf]; omega
          | true =>
            have h4 : b1.toNat < 97 := of_decide_eq_true hd4
            clear hd4
            refine ln rfl ?_
            refine ln rfl ?_
            refine lm (v := .bool false) rfl rfl ?_
            refine wpL_done (fun W16 hW16 => ?_)
            refine (show Code.wp _ _ _ _ _ from ?_)
            refine wp_cond_false rfl ?_
            refine wp_skip ?_
            refine (show Code.wp _ _ _ _ _ from ?_)
            refine wp_region_L (W0 := w) Kl (hW16) ?_
            refine lm (v := va) rfl rfl ?_
            refine lm (v := .int .u8 ((b1.toNat : Nat) : Int)) rfl rfl ?_
            refine wpL_new (fun g => .slice (some ⟨g, 0, none⟩) 1 1) (obi := .cells #[.int .u8 ((b1.toNat : Nat) : Int)] 5 (0, 0)) rfl rfl (fun _ => by kernel_rfl) (fun _ => by simp only [List.setIfInBounds_toArray, List.set_cons_succ, List.set_cons_zero] <;> rfl) fun g6 Bg6 Fg6 => ?_
            refine wpL_g (AppO w 5 1 [] (((stripL (l.take k)).length) + 1) ((u8s (stripL (l.take k))) ++ [.int .u8 ((b1.toNat : Nat) : Int)])) rfl rfl (app_own el_u8 (m := 1) (c := 1) (news := [.int .u8 ((b1.toNat : Nat) : Int)]) rfl (by kernel_rfl) (by kernel_rfl) (.head _) hO (fun p hp => (.tail _ hp)) (List.forall_mem_nil _) rfl (by simp [Value.oneCell']) (by omega) (by omega) (by omega)) (fun _ => by simp only [List.setIfInBounds_toArray, List.set_cons_succ, List.set_cons_zero] <;> rfl) ?_
            rintro v7 Kl7 ⟨_, O7, N7, rfl⟩
            refine lm (v := v7) rfl rfl ?_
            refine wpL_done (fun W17 hW17 => ?_)
            refine (show Code.wp _ _ _ _ _ from ?_)
            refine wp_region_L (W0 := w) Kl7 (hW17) ?_
            refine lp (v := .int .i64 (((k + 1) : Nat) : Int)) rfl rfl (run_bin rfl (vx := (.int .i64 ((k : Nat) : Int))) (vy := (.int .i64 ((1 : Nat) : Int))) (by kernel_rfl) (by kernel_rfl) fun w => bn_add (z := (k + 1)) rfl (wr_i64 (by omega)) w) ?_
            refine lm (v := .int .i64 (((k + 1) : Nat) : Int)) rfl rfl ?_
            refine wpL_done (fun W18 hW18 => ?_)
            go_roundw
            case rel =>
              repeat apply Exists.intro
              exact ⟨⟨k + 1, v7, Kl7, (by omega), (own_snoc O7 (up_no (by omega)) (strip_keep hb1 (by omega) (by omega))), rfl, rfl, hW18⟩, rfl⟩
            case measure => (show l.length - (intOf (.int .i64 (((k + 1) : Nat) : Int))).toNat < l.length - (intOf (.int .i64 ((k : Nat) : Int))).toNat); simp only [intOf]; omega
        | true =>
          have h3 : b1.toNat = 45 := of_decide_eq_true hd3
          clear hd3
          refine wp_cond_true rfl ?_
          refine wp_exit ?_
          refine (show Code.wp _ _ _ _ _ from ?_)
          refine wp_region_L (W0 := w) Kl (hW9) ?_
          refine lp (v := .int .i64 (((k + 1) : Nat) : Int)) rfl rfl (run_bin rfl (vx := (.int .i64 ((k : Nat) : Int))) (vy := (.int .i64 ((1 : Nat) : Int))) (by kernel_rfl) (by kernel_rfl) fun w => bn_add (z := (k + 1)) rfl (wr_i64 (by omega)) w) ?_
          refine lm (v := .int .i64 (((k + 1) : Nat) : Int)) rfl rfl ?_
          refine wpL_done (fun W19 hW19 => ?_)
          go_roundw
          case rel =>
            repeat apply Exists.intro
            exact ⟨⟨k + 1, va, Kl, (by omega), (by rw [strip_skip hb1 (by omega)]; exact hO), rfl, rfl, hW19⟩, rfl⟩
          case measure => (show l.length - (intOf (.int .i64 (((k + 1) : Nat) : Int))).toNat < l.length - (intOf (.int .i64 ((k : Nat) : Int))).toNat); simp only [intOf]; omega
      | true =>
        have h2 : b1.toNat = 32 := of_decide_eq_true hd2
        clear hd2
        refine ln rfl ?_
        refine ln rfl ?_
        refine lm (v := .bool true) rfl rfl ?_
        refine wpL_done (fun W20 hW20 => ?_)
        refine (show Code.wp _ _ _ _ _ from ?_)
        refine wp_cond_true rfl ?_
        refine wp_exit ?_
        refine (show Code.wp _ _ _ _ _ from ?_)
        refine wp_region_L (W0 := w) Kl (hW20) ?_
        refine lp (v := .int .i64 (((k + 1) : Nat) : Int)) rfl rfl (run_bin rfl (vx := (.int .i64 ((k : Nat) : Int))) (vy := (.int .i64 ((1 : Nat) : Int))) (by kernel_rfl) (by kernel_rfl) fun w => bn_add (z := (k + 1)) rfl (wr_i64 (by omega)) w) ?_
        refine lm (v := .int .i64 (((k + 1) : Nat) : Int)) rfl rfl ?_
        refine wpL_done (fun W21 hW21 => ?_)
        go_roundw
        case rel =>
          repeat apply Exists.intro
          exact ⟨⟨k + 1, va, Kl, (by omega), (by rw [strip_skip hb1 (by omega)]; exact hO), rfl, rfl, hW21⟩, rfl⟩
        case measure => (show l.length - (intOf (.int .i64 (((k + 1) : Nat) : Int))).toNat < l.length - (intOf (.int .i64 ((k : Nat) : Int))).toNat); simp only [intOf]; omega
set_option maxRecDepth 100000 in
set_option maxHeartbeats 4000000 in
theorem Read_any (l : List UInt8) (w : World) : Calls Tryd.prog 23 #[strV l] w fun e w' => e = .returned (.tuple #[strV (readL l), .int .i64 (((readE l) : Nat) : Int)]) ∧ Below w.heap.size w w' := by
  go_enter Tryd.func23, Tryd.ntmps23
  refine wp_seq ?_
  refine wp_region_L (W0 := w) [] (KS.start w) ?_
  refine lm (v := strV []) rfl rfl ?_
  refine lm (v := .int .i64 0) rfl rfl ?_
  refine wpL_done (fun W1 hW1 => ?_)
  refine (show Code.wp _ _ _ _ _ from ?_)
  refine wp_seq ?_
  refine wp_seq ?_
  refine wp_region_L (W0 := w) [] (hW1) ?_
  refine lm (v := strV l) rfl rfl ?_
  refine lp (v := .int .i64 ((l.length : Nat) : Int)) rfl rfl (run_lenS (l := l) rfl Tryd.underlying9 (by kernel_rfl)) ?_
  refine lp (v := .bool (decide (40 < l.length))) rfl rfl (run_bin rfl (vx := (.int .i64 ((l.length : Nat) : Int))) (vy := (.int .i64 ((40 : Nat) : Int))) (by kernel_rfl) (by kernel_rfl) fun w => bn_gtr rfl w) ?_
  refine wpL_done (fun W2 hW2 => ?_)
  refine (show Code.wp _ _ _ _ _ from ?_)
  cases hd1 : (decide (40 < l.length)) with
  | false =>
    have h1 : ¬ (40 < l.length) := of_decide_eq_false hd1
    clear hd1
    refine wp_cond_false rfl ?_
    refine wp_skip ?_
    refine (show Code.wp _ _ _ _ _ from ?_)
    refine wp_seq ?_
    refine wp_region_L (W0 := w) [] (hW2) ?_
    refine lm (v := strV l) rfl rfl ?_
    refine lv (v := strV (stripL l)) rfl rfl (yb_call (f := 44) (args := #[strV l]) (fun _ => by kernel_rfl) fun W hW => strip_any l (by omega) W) ?_
    refine lm (v := strV (stripL l)) rfl rfl ?_
    refine wpL_done (fun W3 hW3 => ?_)
    refine (show Code.wp _ _ _ _ _ from ?_)
    refine wp_seq ?_
    refine wp_seq ?_
    refine wp_region_L (W0 := w) [] (hW3) ?_
    refine lm (v := strV (stripL l)) rfl rfl ?_
    refine lv (v := .int .i64 (((judgeN (stripL l)) : Nat) : Int)) rfl rfl (yb_call (f := 41) (args := #[strV (stripL l)]) (fun _ => by kernel_rfl) fun W hW => judge_any (stripL l) W) ?_
    refine lm (v := .int .i64 (((judgeN (stripL l)) : Nat) : Int)) rfl rfl ?_
    refine wpL_done (fun W4 hW4 => ?_)
    refine (show Code.wp _ _ _ _ _ from ?_)
    refine wp_seq ?_
    refine wp_region_L (W0 := w) [] (hW4) ?_
    refine lm (v := .int .i64 (((judgeN (stripL l)) : Nat) : Int)) rfl rfl ?_
    refine lp (v := .bool (!(decide ((judgeN (stripL l)) = 0)))) rfl rfl (run_bin rfl (vx := (.int .i64 (((judgeN (stripL l)) : Nat) : Int))) (vy := (.int .i64 ((0 : Nat) : Int))) (by kernel_rfl) (by kernel_rfl) fun w => bn_neq rfl w) ?_
    refine wpL_done (fun W5 hW5 => ?_)
    refine (show Code.wp _ _ _ _ _ from ?_)
    cases hd2 : (decide ((judgeN (stripL l)) = 0)) with
    | false =>
      have h2 : ¬ ((judgeN (stripL l)) = 0) := of_decide_eq_false hd2
      clear hd2
      refine wp_cond_true rfl ?_
      refine wp_seq ?_
      refine wp_region_L (W0 := w) [] (hW5) ?_
      refine lm (v := .int .i64 (((judgeN (stripL l)) : Nat) : Int)) rfl rfl ?_
      refine lm (v := strV []) rfl rfl ?_
      refine lm (v := .int .i64 (((judgeN (stripL l)) : Nat) : Int)) rfl rfl ?_
      refine wpL_done (fun W6 hW6 => ?_)
      refine (show Code.wp _ _ _ _ _ from ?_)
      refine wp_ret ?_
      try simp only [inBlock_ret, then_ret]
      refine bodyPost_ret (v := .tuple #[strV [], .int .i64 (((judgeN (stripL l)) : Nat) : Int)]) ?_ rfl ?_
      · kernel_rfl
      · exact ⟨(by unfold readL readE; simp [*]), hW6.1⟩
    | true =>
      have h2 : (judgeN (stripL l)) = 0 := of_decide_eq_true hd2
      clear hd2
      refine wp_cond_false rfl ?_
      refine wp_skip ?_
      refine (show Code.wp _ _ _ _ _ from ?_)
      refine wp_seq ?_
      refine wp_region_L (W0 := w) [] (hW5) ?_
      refine lm (v := strV (stripL l)) rfl rfl ?_
      refine lm (v := strV (stripL l)) rfl rfl ?_
      refine lm (v := .int .i64 0) rfl rfl ?_
      refine wpL_done (fun W7 hW7 => ?_)
      refine (show Code.wp _ _ _ _ _ from ?_)
      refine wp_ret ?_
      try simp only [inBlock_ret, then_ret]
      refine bodyPost_ret (v := .tuple #[strV (stripL l), .int .i64 0]) ?_ rfl ?_
      · kernel_rfl
      · exact ⟨(by unfold readL readE; simp [*]), hW7.1⟩
  | true =>
    have h1 : 40 < l.length := of_decide_eq_true hd1
    clear hd1
    refine wp_cond_true rfl ?_
    refine wp_seq ?_
    refine wp_region_L (W0 := w) [] (hW2) ?_
    refine lm (v := strV []) rfl rfl ?_
    refine lm (v := .int .i64 3) rfl rfl ?_
    refine wpL_done (fun W8 hW8 => ?_)
    refine (show Code.wp _ _ _ _ _ from ?_)
    refine wp_ret ?_
    try simp only [inBlock_ret, then_ret]
    refine bodyPost_ret (v := .tuple #[strV [], .int .i64 3]) ?_ rfl ?_
    · kernel_rfl
    · exact ⟨(by unfold readL readE; simp [*]), hW8.1⟩
end Go.Proofs.YtbceajgipmjmlaaDoor
