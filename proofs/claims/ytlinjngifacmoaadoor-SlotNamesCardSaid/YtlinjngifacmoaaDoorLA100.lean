import Derived.Test.YtlinjngifacmoaaDoorSN02
import Derived.Test.YtlinjngifacmoaaDoorSN00
import Derived.Test.YtlinjngifacmoaaDoorSN01
import Derived.Test.YtlinjngifacmoaaDoorSN04
/- Part of the proof: TX0, TN, TO0, TO, TP, TQ, TS0, TS, TU0, TU, TW, TV, TX, TM, TY. -/
set_option linter.unusedVariables false
set_option linter.unusedSimpArgs false
set_option linter.unusedSectionVars false
/- Append and make with the bounds that an input has. -/
namespace Go.Proofs.YtlinjngifacmoaaDoor
open Go Go.RowKit Tw
theorem run_mk0L {P : Program} {T E : TypeId} {o : Oper} {a : Act} {c sz b : Nat} {z : Value} {x y : Operand} (ho : o.op = .makeSlice T x y) (hT : P.underlying T = some (.slice E)) (hi : (P.info? E).map (fun i => (i.zero, i.size, i.bytes)) = some (some z, sz, b)) (hb : b ≤ 10000)
   (hx : a.eval x = .int .i64 0) (hy : a.eval y = .int .i64 ((c : Nat) : Int)) (hn : b * c ≤ 281474976710656 ∧ c ≤ 9223372036854775807) (w : World) : (execOp a.eval o).run P w = .ok (.value (.slice (some ⟨w.heap.size, 0, none⟩) 0 c)) (w.alloc (.cells (madeCells z.cells (c * sz)) E (0, 0))) := by
 unfold execOp
 rw [ho]
 have h1 : b * c ≤ 281474976710656 := hn.1
 obtain ⟨i, hi2, hzz⟩ := Option.map_eq_some_iff.1 hi
 simp only [Prod.mk.injEq] at hzz
 obtain ⟨hz, hs, hb2⟩ := hzz
 have hbb : (i.bytes : Int) * (c : Int) ≤ 281474976710656 := by
   rw [hb2]
   have h : ((b * c : Nat) : Int) ≤ 281474976710656 := by omega
   rwa [Int.natCast_mul] at h
 have h2 := run_make (P := P) w T E i z hT hi2 hz .i64 .i64 0 c (Int.le_refl _) Tw.om hbb Tw.om
 simp only [Int.toNat_natCast, hs] at h2
 simp [hx, hy, h2]
theorem own_madeL {α : Type} {cells : α → List Value} {sz c : Nat} {W0 : Base} {E : TypeId} {g : Nat} {z : Value} (hB : W0.B ≤ g) (hz : z.cells.size = sz) (hc : c ≤ 9223372036854775807) : OwnL W0 E sz (.slice (some ⟨g, 0, none⟩) 0 c) 0 (([] : List α).flatMap cells) [(g, .cells (madeCells z.cells (c * sz)) E (0, 0))] := by
 refine .inr ⟨g, c, _, rfl, hB, ⟨?_, by unfold maxLen; omega, Nat.zero_le _, by simp, by simp⟩, rfl⟩
 simp [madeCells]
section
variable {P : Program} {T U E : TypeId} {W0 : Base}
theorem app_ownL {o : Oper} {a : Act} {K K0 Kl : List (Nat × Obj)} {s x : Operand} {h m c n sz bts : Nat} {z v : Value} {fr : Nat × Nat} {news xs : List Value} (hE : Elem P T E sz bts z)
   (ho : o.op = .call { callee := .builtin .append, args := #[s, x], argTypes := #[T, T] }) (hs : a.eval s = v) (hx : a.eval x = .slice (some ⟨h, 0, none⟩) m c) (hm : (h, .cells news.toArray E fr) ∈ K)
   (hO : OwnL W0 E sz v n xs Kl) (hsub : ∀ p ∈ Kl, p ∈ K) (hK0 : ∀ p ∈ K0, p ∈ K ∧ ∀ q ∈ Kl, q.1 ≠ p.1) (hl : news.length = m * sz) (h1 : ∀ u ∈ news, u.oneCell' = true) (hm0 : 0 < m) (hn : (n + m) * bts ≤ 140737488355328) (hb : n + m ≤ 9223372036854775807) :
   ∀ w, KS W0 K w → ∃ v' K' w', (execOp a.eval o).run P w = .ok (.value v') w' ∧ KS W0 K' w' ∧ AppO W0 E sz K0 (n + m) (xs ++ news) v' K' := by
 intro w hw
 obtain ⟨hu, ⟨i, hi, hz, hsz, hby⟩, hzs⟩ := hE
 have hh := hw.2 _ hm
 have hmax : n + m ≤ maxLen := by unfold maxLen; omega
 have hbt : (n + m) * i.bytes ≤ 140737488355328 := by
   rw [hby]
   exact hn
 rcases hO with ⟨rfl, rfl, rfl, rfl⟩ | ⟨g, cap, cur, rfl, hB, ⟨r1, r2, r3, r4, r5⟩, rfl⟩
 · have hr := run_append_nil (P := P) w T o.type E i z hu hi hz ⟨h, 0, none⟩ m c news (by rw [hsz]; exact hl) (blk_cells hh) hm0 Tw.om (by rw [Nat.zero_add] at hbt; omega)
   have hg := grownCap_ge w m 0 E
   have hg2 := grownCap_le_maxLen w m 0 E Tw.om
   have hR := rown_new (sz := sz) (n := 0) (m := m) (olds := []) (news := news) z.cells hzs (by simp) hl (show 0 + m ≤ grownCap w m 0 E by omega) hg2
   simp only [Nat.zero_add, List.nil_append, show (([] : List Value).toArray ++ news.toArray) = news.toArray from by simp] at hR ⊢
   obtain ⟨e1, e2⟩ := appo_end (E := E) hw (fun p hp => (hK0 p hp).1) hR
   exact ⟨_, _, _, run_appv ho hs hx hr, e1, e2⟩
 · have hgc := hw.2 _ (hsub _ Tw.m0)
   by_cases hroom : n + m ≤ cap
   · have hmul : n * sz + m * sz ≤ cap * sz := by rw [← Nat.add_mul]; exact Nat.mul_le_mul_right _ hroom
     have hr := run_append_room (P := P) w T o.type E i hu hi g n cap cur hgc ⟨h, 0, none⟩ m c news (by rw [hsz]; exact hl) (blk_cells hh) h1 hroom (by rw [hsz, r1, hl]; exact hmul)
     refine ⟨_, K0 ++ [(g, .cells (cur.toList.take (n * i.size) ++ news ++ cur.toList.drop (n * i.size + news.length)).toArray E (0, 0))], _, run_appv ho hs hx hr, hw.setRow hB hgc ?_, _, .inr ⟨g, cap, _, rfl, hB, ⟨?_, r2, hroom, by simp [r4, hl, Nat.add_mul], ?_⟩, rfl⟩, fun p hp q hq => ?_, rfl⟩
     · intro p hp
       rcases List.mem_append.1 hp with hp | hp
       · exact .inr ⟨(hK0 p hp).1, fun e => (hK0 p hp).2 _ Tw.m0 e.symm⟩
       · exact .inl (List.mem_singleton.1 hp)
     · rw [hsz]
       simp only [List.size_toArray, List.length_append, List.length_take, List.length_drop, Array.length_toList, r1, hl]
       omega
     · rw [hsz, r5, show (n + m) * sz = (xs ++ news).length from by simp [r4, hl, Nat.add_mul]]
       exact List.take_left
     · cases List.mem_singleton.1 hq
       exact (hK0 p hp).2 (g, .cells cur E (0, 0)) Tw.m0
   · have holds : ∀ j u, xs[j]? = some u → w.cell? ((⟨g, 0, none⟩ : Addr).add j) = some u := by
       intro j u hu
       rw [addr_add, Nat.zero_add, cell_of_row w g j cur _ (0, 0) hgc]
       rw [← r5, List.getElem?_take] at hu
       split at hu
       · simpa using hu
       · cases hu
     have hr := run_append_grow (P := P) w T o.type E i z hu hi hz ⟨g, 0, none⟩ n cap xs (by rw [hsz]; exact r4) holds ⟨h, 0, none⟩ m c news (by rw [hsz]; exact hl) (blk_cells hh) Tw.om Tw.om
       (growslice_fits Tw.om hbt)
     have hg1 := grownCap_ge w (n + m) cap E
     have hg2 := grownCap_le_maxLen w (n + m) cap E hmax
     obtain ⟨e1, e2⟩ := appo_end (E := E) hw (fun p hp => (hK0 p hp).1) (rown_new (sz := sz) (olds := xs) (news := news) z.cells hzs r4 hl hg1 hg2)
     exact ⟨_, _, _, run_appv ho hs hx hr, e1, e2⟩
theorem app_anyL {W0 : Base} {o : Oper} {a : Act} {K K0 Kl : List (Nat × Obj)} {s x : Operand} {m n sz bts : Nat} {z v y : Value} {news xs : List Value} (hE : Elem P T E sz bts z)
   (ho : o.op = .call { callee := .builtin .append, args := #[s, x], argTypes := #[T, U] }) (hs : a.eval s = v) (hx : a.eval x = y) (hsrc : ∀ w, KS W0 K w → Src P sz U y m news w)
   (hO : OwnL W0 E sz v n xs Kl) (hsub : ∀ p ∈ Kl, p ∈ K) (hK0 : ∀ p ∈ K0, p ∈ K ∧ ∀ q ∈ Kl, q.1 ≠ p.1) (hn : (n + m) * bts ≤ 140737488355328) (hb : n + m ≤ 9223372036854775807) :
   ∀ w, KS W0 K w → ∃ v' K' w', (execOp a.eval o).run P w = .ok (.value v') w' ∧ KS W0 K' w' ∧ AppO W0 E sz K0 (n + m) (xs ++ news) v' K' := by
 intro w hw
 obtain ⟨hu, ⟨i, hi, hz, hsz, hby⟩, hzs⟩ := hE
 have hS := hsrc w hw
 have hl := hS.newsLen
 have hmax : n + m ≤ maxLen := by unfold maxLen; omega
 have hbt : (n + m) * i.bytes ≤ 140737488355328 := by
   rw [hby]
   exact hn
 subst hsz
 rcases Nat.eq_zero_or_pos m with rfl | hm0
 · have hn0 : news = [] := List.eq_nil_of_length_eq_zero (by rw [hl]; simp)
   subst hn0
   rw [List.append_nil, Nat.add_zero]
   have hv : ∃ p cap, v = .slice p n cap ∧ n ≤ cap := by
     rcases hO with ⟨rfl, _, rfl, _⟩ | ⟨g, cap, cur, rfl, _, ⟨_, _, h3, _⟩, _⟩
     · exact ⟨_, _, rfl, Nat.le_refl _⟩
     · exact ⟨_, _, rfl, h3⟩
   obtain ⟨p, cap, rfl, hle⟩ := hv
   have hr := run_append_nothing (P := P) w T U o.type E i hu hi p n cap hle _ hS
   refine ⟨_, K0 ++ Kl, w, run_appu ho hs hx hr, hw.sub (fun q hq => ?_), Kl, hO, fun q hq => (hK0 q hq).2, rfl⟩
   rcases List.mem_append.1 hq with h | h
   · exact (hK0 q h).1
   · exact hsub q h
 · rcases hO with ⟨rfl, rfl, rfl, rfl⟩ | ⟨g, cap, cur, rfl, hB, ⟨r1, r2, r3, r4, r5⟩, rfl⟩
   · have hf0 : (Builtin.firstCells i.size 0 (.slice none 0 0)).run P w.drew = .ok (([] : List Value).toArray) w.drew := by
       simp [run_firstCells_none]
     have hr := run_append_grow_src (P := P) w T U o.type E i z hu hi hz none 0 0 [] hf0 y m news hS Tw.om Tw.om (growslice_fits Tw.om hbt)
     have hg1 := grownCap_ge w (0 + m) 0 E
     have hg2 := grownCap_le_maxLen w (0 + m) 0 E hmax
     have hR := rown_new (sz := i.size) (n := 0) (m := m) (olds := []) (news := news) z.cells hzs (by simp) hl hg1 hg2
     obtain ⟨e1, e2⟩ := appo_end (E := E) hw (fun p hp => (hK0 p hp).1) hR
     refine ⟨_, _, _, run_appu ho hs hx hr, ?_, e2⟩
     simpa using e1
   · have hgc := hw.2 _ (hsub _ Tw.m0)
     by_cases hroom : n + m ≤ cap
     · have hmul : n * i.size + m * i.size ≤ cap * i.size := by rw [← Nat.add_mul]; exact Nat.mul_le_mul_right _ hroom
       have hr := run_room_any (P := P) (U := U) w o.type i hu hi g n cap cur hgc y m news hS hroom (by rw [r1, hl]; exact hmul)
       refine ⟨_, K0 ++ [(g, .cells (cur.toList.take (n * i.size) ++ news ++ cur.toList.drop (n * i.size + news.length)).toArray E (0, 0))], _, run_appu ho hs hx hr, hw.setRow hB hgc ?_, _, .inr ⟨g, cap, _, rfl, hB, ⟨?_, r2, hroom, by simp [r4, hl, Nat.add_mul], ?_⟩, rfl⟩, fun p hp q hq => ?_, rfl⟩
       · intro p hp
         rcases List.mem_append.1 hp with hp | hp
         · exact .inr ⟨(hK0 p hp).1, fun e => (hK0 p hp).2 _ Tw.m0 e.symm⟩
         · exact .inl (List.mem_singleton.1 hp)
       · simp only [List.size_toArray, List.length_append, List.length_take, List.length_drop, Array.length_toList, r1, hl]
         omega
       · rw [r5, show (n + m) * i.size = (xs ++ news).length from by simp [r4, hl, Nat.add_mul]]
         exact List.take_left
       · cases List.mem_singleton.1 hq
         exact (hK0 p hp).2 (g, .cells cur E (0, 0)) Tw.m0
     · have hgd : w.drew.heap[g]? = some (.cells cur E (0, 0)) := hgc
       have holds : ∀ j u, xs[j]? = some u → w.drew.cell? ((⟨g, 0, none⟩ : Addr).add j) = some u := by
         intro j u hu
         rw [addr_add, Nat.zero_add, cell_of_row w.drew g j cur _ (0, 0) hgd]
         rw [← r5, List.getElem?_take] at hu
         split at hu
         · simpa using hu
         · cases hu
       have hf := run_firstCells_some (P := P) w.drew i.size n ⟨g, 0, none⟩ n cap xs r4 holds
       have hr := run_append_grow_src (P := P) w T U o.type E i z hu hi hz (some ⟨g, 0, none⟩) n cap xs hf y m news hS Tw.om Tw.om (growslice_fits Tw.om hbt)
       have hg1 := grownCap_ge w (n + m) cap E
       have hg2 := grownCap_le_maxLen w (n + m) cap E hmax
       obtain ⟨e1, e2⟩ := appo_end (E := E) hw (fun p hp => (hK0 p hp).1) (rown_new (sz := i.size) (olds := xs) (news := news) z.cells hzs r4 hl hg1 hg2)
       refine ⟨_, _, _, run_appu ho hs hx hr, ?_, e2⟩
       simpa using e1
end
end Go.Proofs.YtlinjngifacmoaaDoor
namespace Go.Proofs.YtlinjngifacmoaaDoor
open Go Go.RowKit Tw
set_option maxRecDepth 100000 in
set_option maxHeartbeats 4000000 in
theorem mark_any (k i : Int) (hk : 0 ≤ k ∧ k ≤ 1000) (hi : 0 ≤ i ∧ i ≤ 8000000000) (w : World) : Calls Tryd.prog 79 #[.int .i64 k, .int .i64 i] w fun e w' => e = .returned (.int .i64 (1000003 * (k + 7) + i)) ∧ Below w.heap.size w w' := by
 go_enter Tryd.func79, Tryd.ntmps79
 refine wp_seq ?_
 refine wp_region_L [] (KS.start w) ?_
 refine lm (v := .int .i64 0) rfl rfl ?_
 refine wpL_done (fun W1 hW1 => ?_)
 change Code.wp ..
 refine wp_seq ?_
 refine wp_region_L _ hW1 ?_
 refine lm (v := .int .i64 k) rfl rfl ?_
 refine lp (v := .int .i64 (k + 7)) rfl rfl (run_bin rfl (vx := (.int .i64 k)) (vy := (.int .i64 7)) Tw.kr Tw.kr fun w => bi_add (z := (k + 7)) rfl (wi_i64 Tw.om) w) ?_
 refine lp (v := .int .i64 (1000003 * (k + 7))) rfl rfl (run_bin rfl (vx := (.int .i64 1000003)) (vy := (.int .i64 (k + 7))) Tw.kr Tw.kr fun w => bi_mul (z := (1000003 * (k + 7))) rfl (wi_i64 Tw.om) w) ?_
 refine lm (v := .int .i64 i) rfl rfl ?_
 refine lp (v := .int .i64 ((1000003 * (k + 7)) + i)) rfl rfl (run_bin rfl (vx := (.int .i64 (1000003 * (k + 7)))) (vy := (.int .i64 i)) Tw.kr Tw.kr fun w => bi_add (z := ((1000003 * (k + 7)) + i)) rfl (wi_i64 Tw.om) w) ?_
 refine lm (v := .int .i64 ((1000003 * (k + 7)) + i)) rfl rfl ?_
 refine wpL_done (fun W2 hW2 => ?_)
 change Code.wp ..
 refine wp_ret ?_
 try simp only [inBlock_ret, then_ret]
 refine bodyPost_ret (v := .int .i64 ((1000003 * (k + 7)) + i)) ?_ rfl ?_
 · kernel_rfl
 · exact ⟨(int_is Tw.om), hW2.1⟩
set_option maxRecDepth 100000 in
set_option maxHeartbeats 4000000 in
theorem LentInts_any (l : List Int) (p : Option Addr) (c : Nat) (hl : l.length ≤ 1000000) (w : World) (hp : SLV w p (l.flatMap inC)) : Calls Tryd.prog 108 #[.slice p l.length c] w fun e w' => ∃ q d, e = .returned (.slice q l.length d) ∧ l.length + 12 ≤ d ∧ OutV w w' 3 1 (.slice q (l ++ mkL 12).length d) (l ++ mkL 12).length ((l ++ mkL 12).flatMap inC) ∧ Below w.heap.size w w' := by
 have HP := Lib.hid hp
 clear hp
 go_enter Tryd.func108, Tryd.ntmps108
 refine wp_seq ?_
 refine wp_region_L [] (KS.start w) ?_
 refine lm (v := .slice none 0 0) rfl rfl ?_
 refine wpL_done (fun W1 hW1 => ?_)
 change Code.wp ..
 refine wp_seq ?_
 refine wp_region_L _ hW1 ?_
 refine lm (v := .slice p l.length c) rfl rfl ?_
 refine lp (v := .int .i64 ((l.length : Nat) : Int)) rfl rfl (run_lenL (p := p) (cap := c) (n := l.length) rfl Tryd.underlying63 Tw.kr) ?_
 refine lp (v := .int .i64 (((l.length + 12) : Nat) : Int)) rfl rfl (run_bin rfl (vx := (.int .i64 ((l.length : Nat) : Int))) (vy := (.int .i64 ((12 : Nat) : Int))) Tw.kr Tw.kr fun w => bn_add (z := (l.length + 12)) rfl (wr_i64 Tw.om) w) ?_
 refine wpL_new (fun g => .slice (some ⟨g, 0, none⟩) 0 (l.length + 12)) (obi := .cells (madeCells (Value.cells (.int .i64 0)) ((l.length + 12) * 1)) 3 (0, 0)) rfl rfl (run_mk0 (c := (l.length + 12)) (z := (.int .i64 0)) (sz := 1) (b := 8) rfl Tryd.underlying63 Tw.kr (by decide) Tw.kr Tw.kr Tw.om) Tw.pf fun g1 Bg1 Fg1 => ?_
 refine lm (v := .slice (some ⟨g1, 0, none⟩) 0 (l.length + 12)) rfl rfl ?_
 refine wpL_done (fun W2 hW2 => ?_)
 change Code.wp ..
 refine wp_seq ?_
 refine wp_region_L _ hW2 ?_
 refine lm (v := .slice (some ⟨g1, 0, none⟩) 0 (l.length + 12)) rfl rfl ?_
 refine lm (v := .slice p l.length c) rfl rfl ?_
 have Om2 := (own_made (cells := inC) (c := (l.length + 12)) (E := 3) (z := (.int .i64 0)) Bg1 rfl Tw.om)
 refine wpL_g (AppO w 3 1 [] (0 + l.length) ((([] : List Int).flatMap inC) ++ (l.flatMap inC))) rfl rfl (app_any el_int (m := l.length) (news := (l.flatMap inC)) (y := .slice p l.length c) rfl Tw.kr Tw.kr (src_rl (c := c) Tryd.underlying63 inC_len inC_one (by decide) ((RL.base HP.out).mono (fun _ h => by cases h)) rfl) Om2 (fun p hp => by cases List.mem_singleton.1 hp; exact Tw.m0) (fun _ h => by cases h) Tw.om Tw.om) Tw.pf ?_
 rintro v3 Kl3 ⟨_, O3, N3, rfl⟩
 refine lm (v := v3) rfl rfl ?_
 refine wpL_done (fun W3 hW3 => ?_)
 change Code.wp ..
 refine wp_seq ?_
 refine wp_seq ?_
 refine wp_region_L _ hW3 ?_
 refine lm (v := .int .i64 0) rfl rfl ?_
 refine wpL_done (fun W4 hW4 => ?_)
 change Code.wp ..
 refine wp_block ?_
 go_loopw [4, 3] (fun u4 u3 wr => ∃ (i : Nat) (vo : Value) (Ko : List (Nat × Obj)), (i ≤ 12) ∧ (OwnL w 3 1 vo (l.length + i) ((l ++ mkL i).flatMap inC) Ko) ∧ u4 = .int .i64 ((i : Nat) : Int) ∧ vo = u3 ∧ KS w Ko wr) (fun u4 _ _ => 12 - (intOf u4).toNat)
 case atStart => exact ⟨0, v3, Kl3, (Nat.zero_le _), (by have h9 := O3; rw [List.flatMap_nil, List.nil_append, Nat.zero_add] at h9; rw [show l ++ mkL 0 = l from by simp [mkL]]; exact h9), rfl, rfl, (hW4.sub (fun p hp => by first | exact hp | (simp only [List.mem_cons, List.mem_append, List.nil_append, List.not_mem_nil, or_assoc, or_false, false_or] at hp ⊢ <;> grind)))⟩
 case round =>
   obtain ⟨i, vo, Ko, hi, hO, rfl, rfl, hL5⟩ := hrel
   refine wp_seq ?_
   refine wp_seq ?_
   refine wp_region_L _ hL5 ?_
   refine lm (v := .int .i64 ((i : Nat) : Int)) rfl rfl ?_
   refine lp (v := .bool (decide (i < 12))) rfl rfl (run_bin rfl (vx := (.int .i64 ((i : Nat) : Int))) (vy := (.int .i64 ((12 : Nat) : Int))) Tw.kr Tw.kr fun w => bn_lss rfl w) ?_
   refine wpL_done (fun W6 hW6 => ?_)
   change Code.wp ..
   cases hd1 : (decide (i < 12)) with
   | false =>
     have h1 : ¬ (i < 12) := of_decide_eq_false hd1
     clear hd1
     refine wp_cond_false rfl ?_
     refine wp_exit ?_
     change Code.wp ..
     refine wp_seq ?_
     refine wp_region_L _ hW6 ?_
     refine lm (v := vo) rfl rfl ?_
     refine lm (v := .slice p l.length c) rfl rfl ?_
     refine lp (v := .int .i64 ((l.length : Nat) : Int)) rfl rfl (run_lenL (p := p) (cap := c) (n := l.length) rfl Tryd.underlying63 Tw.kr) ?_
     have hi12 : i = 12 := by omega
     subst hi12
     have hO2 := own_app (cells := inC) (l' := l ++ mkL 12) hO rfl (by rw [List.length_append, mkL_len])
     obtain ⟨q9, d9, rfl, hd9, R9⟩ := own_rl hO2
     have hlen : (l ++ mkL 12).length = l.length + 12 := by rw [List.length_append, mkL_len]
     refine lp (v := .slice q9 l.length d9) rfl rfl (run_slt (kd := .i64) (j := l.length) (n := (l ++ mkL 12).length) (c := d9) (sz := 1) rfl Tryd.underlying63 Tw.kr Tw.kr Tw.kr Tw.om) ?_
     refine lm (v := .slice q9 l.length d9) rfl rfl ?_
     refine wpL_done (fun W7 hW7 => ?_)
     change Code.wp ..
     refine wp_ret ?_
     try simp only [inBlock_ret, then_ret]
     refine bodyPost_ret (v := .slice q9 l.length d9) ?_ rfl ?_
     · kernel_rfl
     · exact ⟨q9, d9, rfl, by omega, hO2.out (fun p hp => by simp only [List.mem_cons, List.mem_append, List.nil_append, List.not_mem_nil, or_assoc, or_false, false_or, hp, true_or, or_true]) hW7, hW7.1⟩
   | true =>
     have h1 : i < 12 := of_decide_eq_true hd1
     clear hd1
     refine wp_cond_true rfl ?_
     refine wp_skip ?_
     change Code.wp ..
     refine wp_seq ?_
     refine wp_block ?_
     refine wp_region_L _ hW6 ?_
     refine lm (v := vo) rfl rfl ?_
     refine lm (v := .int .i64 ((i : Nat) : Int)) rfl rfl ?_
     refine lv (v := .int .i64 (mkI i)) rfl rfl (yb_call (f := 79) (args := #[.int .i64 1, .int .i64 ((i : Nat) : Int)]) Tw.kf fun W hW => mark_any 1 ((i : Nat) : Int) Tw.om Tw.om W) ?_
     refine wpL_new (fun g => .slice (some ⟨g, 0, none⟩) 1 1) (obi := .cells #[.int .i64 (mkI i)] 3 (0, 0)) rfl rfl Tw.kf Tw.pf fun g5 Bg5 Fg5 => ?_
     obtain dj6_0 : Dk g5 Ko := Tw.dkf Fg5
     refine wpL_g (AppO w 3 1 [] ((l.length + i) + 1) (((l ++ mkL i).flatMap inC) ++ [.int .i64 (mkI i)])) rfl rfl (app_own el_int (m := 1) (c := 1) (news := [.int .i64 (mkI i)]) rfl Tw.kr Tw.kr Tw.m0 hO Tw.sc (fun _ h => by cases h) rfl (by simp [strV, Value.oneCell']) Tw.om Tw.om Tw.om) Tw.pf ?_
     rintro v7 Kl7 ⟨_, O7, N7, rfl⟩
     refine lm (v := v7) rfl rfl ?_
     refine wpL_done (fun W8 hW8 => ?_)
     change Code.wp ..
     refine wp_region_L _ hW8 ?_
     refine lm (v := .int .i64 ((i : Nat) : Int)) rfl rfl ?_
     refine lp (v := .int .i64 (((i + 1) : Nat) : Int)) rfl rfl (run_bin rfl (vx := (.int .i64 ((i : Nat) : Int))) (vy := (.int .i64 ((1 : Nat) : Int))) Tw.kr Tw.kr fun w => bn_add (z := (i + 1)) rfl (wr_i64 Tw.om) w) ?_
     refine lm (v := .int .i64 (((i + 1) : Nat) : Int)) rfl rfl ?_
     refine wpL_done (fun W9 hW9 => ?_)
     go_roundw
     case rel =>
       repeat apply Exists.intro
       exact ⟨⟨i + 1, v7, Kl7, Tw.om, (by have h9 := own_snoc (l' := l ++ mkL (i + 1)) O7 (by rw [mkL_s, List.append_assoc]); exact h9), rfl, rfl, (hW9.sub (fun p hp => by first | exact hp | (simp only [List.mem_cons, List.mem_append, List.nil_append, List.not_mem_nil, or_assoc, or_false, false_or] at hp ⊢ <;> grind)))⟩, rfl⟩
     case measure => (show 12 - (intOf (.int .i64 (((i + 1) : Nat) : Int))).toNat < 12 - (intOf (.int .i64 ((i : Nat) : Int))).toNat); simp only [intOf]; omega
set_option maxRecDepth 100000 in
set_option maxHeartbeats 4000000 in
theorem KeptInts_any (l : List Int) (p q : Option Addr) (c d : Nat) (hl : l.length ≤ 1000000) (hc : l.length + 12 ≤ c) (w : World) (hp : SLV w p ((l ++ mkL 12).flatMap inC)) (hq : SLV w q (l.flatMap inC)) : Calls Tryd.prog 109 #[.slice p l.length c, .slice q l.length d] w fun e w' => e = .returned (.bool true) ∧ Below w.heap.size w w' := by
 have HP := Lib.hid hp
 clear hp
 have HQ := Lib.hid hq
 clear hq
 have hlen : (l ++ mkL 12).length = l.length + 12 := by rw [List.length_append, mkL_len]
 go_enter Tryd.func109, Tryd.ntmps109
 refine wp_seq ?_
 refine wp_region_L [] (KS.start w) ?_
 refine lm (v := .bool false) rfl rfl ?_
 refine wpL_done (fun W1 hW1 => ?_)
 change Code.wp ..
 refine wp_seq ?_
 refine wp_seq ?_
 refine wp_region_L _ hW1 ?_
 refine lm (v := .slice p l.length c) rfl rfl ?_
 refine lp (v := .int .i64 ((l.length : Nat) : Int)) rfl rfl (run_lenL (p := p) (cap := c) (n := l.length) rfl Tryd.underlying63 Tw.kr) ?_
 refine lm (v := .slice q l.length d) rfl rfl ?_
 refine lp (v := .int .i64 ((l.length : Nat) : Int)) rfl rfl (run_lenL (p := q) (cap := d) (n := l.length) rfl Tryd.underlying63 Tw.kr) ?_
 refine lp (v := .bool false) rfl rfl (run_bin rfl (vx := (.int .i64 ((l.length : Nat) : Int))) (vy := (.int .i64 ((l.length : Nat) : Int))) Tw.kr Tw.kr fun w => bn_neq (decide_eq_true rfl) w) ?_
 refine wpL_done (fun W2 hW2 => ?_)
 change Code.wp ..
 refine wp_cond_false rfl ?_
 refine wp_skip ?_
 change Code.wp ..
 refine wp_seq ?_
 refine wp_region_L _ hW2 ?_
 refine lm (v := .slice p l.length c) rfl rfl ?_
 refine lm (v := .slice q l.length d) rfl rfl ?_
 refine lp (v := .int .i64 ((l.length : Nat) : Int)) rfl rfl (run_lenL (p := q) (cap := d) (n := l.length) rfl Tryd.underlying63 Tw.kr) ?_
 refine lp (v := .int .i64 (((l.length + 12) : Nat) : Int)) rfl rfl (run_bin rfl (vx := (.int .i64 ((l.length : Nat) : Int))) (vy := (.int .i64 ((12 : Nat) : Int))) Tw.kr Tw.kr fun w => bn_add (z := (l.length + 12)) rfl (wr_i64 Tw.om) w) ?_
 refine lp (v := .slice p (l.length + 12) c) rfl rfl (run_slt (kd := .i64) (j := (l.length + 12)) (n := l.length) (c := c) (sz := 1) rfl Tryd.underlying63 Tw.kr Tw.kr Tw.kr Tw.om) ?_
 refine lm (v := .slice p (l.length + 12) c) rfl rfl ?_
 refine wpL_done (fun W3 hW3 => ?_)
 change Code.wp ..
 refine wp_seq ?_
 refine wp_seq ?_
 refine wp_region_L _ hW3 ?_
 refine lm (v := .int .i64 0) rfl rfl ?_
 refine wpL_done (fun W4 hW4 => ?_)
 change Code.wp ..
 refine wp_block ?_
 go_loopw [6] (fun u6 wr => ∃ (i : Nat), (i ≤ l.length + 12) ∧ u6 = .int .i64 ((i : Nat) : Int) ∧ KS w [] wr) (fun u6 _ => l.length + 12 - (intOf u6).toNat)
 case atStart => exact ⟨0, (Nat.zero_le _), rfl, (hW4.sub (fun p hp => by first | exact hp | (simp only [List.mem_cons, List.mem_append, List.nil_append, List.not_mem_nil, or_assoc, or_false, false_or] at hp ⊢ <;> grind)))⟩
 case round =>
   obtain ⟨i, hi, rfl, hL5⟩ := hrel
   refine wp_seq ?_
   refine wp_seq ?_
   refine wp_region_L _ hL5 ?_
   refine lm (v := .int .i64 ((i : Nat) : Int)) rfl rfl ?_
   refine lm (v := .slice p (l.length + 12) c) rfl rfl ?_
   refine lp (v := .int .i64 (((l.length + 12) : Nat) : Int)) rfl rfl (run_lenL (p := p) (cap := c) (n := (l.length + 12)) rfl Tryd.underlying63 Tw.kr) ?_
   refine lp (v := .bool (decide (i < (l.length + 12)))) rfl rfl (run_bin rfl (vx := (.int .i64 ((i : Nat) : Int))) (vy := (.int .i64 (((l.length + 12) : Nat) : Int))) Tw.kr Tw.kr fun w => bn_lss rfl w) ?_
   refine wpL_done (fun W6 hW6 => ?_)
   change Code.wp ..
   cases hd1 : (decide (i < (l.length + 12))) with
   | false =>
     have h1 : ¬ (i < (l.length + 12)) := of_decide_eq_false hd1
     clear hd1
     refine wp_cond_false rfl ?_
     refine wp_exit ?_
     change Code.wp ..
     refine wp_seq ?_
     refine wp_region_L _ hW6 ?_
     refine lm (v := .bool true) rfl rfl ?_
     refine wpL_done (fun W7 hW7 => ?_)
     change Code.wp ..
     refine wp_ret ?_
     try simp only [inBlock_ret, then_ret]
     refine bodyPost_ret (v := .bool true) ?_ rfl ?_
     · kernel_rfl
     · exact ⟨rfl, hW7.1⟩
   | true =>
     have h1 : i < (l.length + 12) := of_decide_eq_true hd1
     clear hd1
     refine wp_cond_true rfl ?_
     refine wp_skip ?_
     change Code.wp ..
     refine wp_seq ?_
     refine wp_block ?_
     refine wp_seq ?_
     refine wp_region_V _ Tw.kr hW6 ?_
     refine vm (i := 0) (v := .int .i64 ((i : Nat) : Int)) rfl rfl rfl ?_
     refine vm (i := 1) (v := .slice q l.length d) rfl rfl rfl ?_
     refine vp (i := 2) (v := .int .i64 ((l.length : Nat) : Int)) rfl rfl rfl (run_lenL (p := q) (cap := d) (n := l.length) rfl Tryd.underlying63 Tw.kr) ?_
     refine vp (i := 3) (v := .bool (decide (i < l.length))) rfl rfl rfl (run_bin rfl (vx := (.int .i64 ((i : Nat) : Int))) (vy := (.int .i64 ((l.length : Nat) : Int))) Tw.kr Tw.kr fun w => bn_lss rfl w) ?_
     refine vm (i := 4) (v := .bool (decide (i < l.length))) rfl rfl rfl ?_
     cases hd2 : (decide (i < l.length)) with
     | false =>
       have h2 : ¬ (i < l.length) := of_decide_eq_false hd2
       clear hd2
       refine vn (i := 5) rfl rfl ?_
       refine vn (i := 6) rfl rfl ?_
       refine vn (i := 7) rfl rfl ?_
       refine vn (i := 8) rfl rfl ?_
       refine vn (i := 9) rfl rfl ?_
       refine vn (i := 10) rfl rfl ?_
       refine vn (i := 11) rfl rfl ?_
       refine vn (i := 12) rfl rfl ?_
       refine vn (i := 13) rfl rfl ?_
       refine vn (i := 14) rfl rfl ?_
       refine vm (i := 15) (v := .bool false) rfl rfl rfl ?_
       refine vm (i := 16) (v := .bool false) rfl rfl rfl ?_
       refine vm (i := 17) (v := .int .i64 ((i : Nat) : Int)) rfl rfl rfl ?_
       refine vm (i := 18) (v := .slice q l.length d) rfl rfl rfl ?_
       refine vp (i := 19) (v := .int .i64 ((l.length : Nat) : Int)) rfl rfl rfl (run_lenL (p := q) (cap := d) (n := l.length) rfl Tryd.underlying63 Tw.kr) ?_
       refine vp (i := 20) (v := .bool true) rfl rfl rfl (run_bin rfl (vx := (.int .i64 ((i : Nat) : Int))) (vy := (.int .i64 ((l.length : Nat) : Int))) Tw.kr Tw.kr fun w => bn_geq (decide_eq_false (by assumption)) w) ?_
       refine vm (i := 21) (v := .bool true) rfl rfl rfl ?_
       refine vm (i := 22) (v := .slice p (l.length + 12) c) rfl rfl rfl ?_
       refine vm (i := 23) (v := .int .i64 ((i : Nat) : Int)) rfl rfl rfl ?_
       obtain ⟨y1, g1_, f1_, hy1, hp1, hc1⟩ := RL.at (RL.base HP.out) inC_len (by decide) (hW6.sub (fun _ h => by cases h)) (k := i) Tw.om
       refine vp (i := 24) (v := .pointer (some ⟨g1_, f1_ + i * 1, none⟩)) rfl rfl rfl (run_idxQ (p := p) (cap := c) (n := (l.length + 12)) (j := .i64) (k := i) (sz := 1) rfl Tryd.underlying63 Tw.kr Tw.kr hp1 Tw.kr Tw.om) ?_
       refine vb (i := 25) (v := .int .i64 y1) rfl rfl rfl (yb_rf (v := .int .i64 y1) rfl Tw.kr (fun W hW => hc1 W (hW.sub (fun _ h => by cases h)) 0 _ rfl) Tryd.underlying3 rfl) ?_
       refine vm (i := 26) (v := .int .i64 ((i : Nat) : Int)) rfl rfl rfl ?_
       refine vm (i := 27) (v := .slice q l.length d) rfl rfl rfl ?_
       refine vp (i := 28) (v := .int .i64 ((l.length : Nat) : Int)) rfl rfl rfl (run_lenL (p := q) (cap := d) (n := l.length) rfl Tryd.underlying63 Tw.kr) ?_
       refine vp (i := 29) (v := .int .i64 (((i - l.length) : Nat) : Int)) rfl rfl rfl (run_bin rfl (vx := (.int .i64 ((i : Nat) : Int))) (vy := (.int .i64 ((l.length : Nat) : Int))) Tw.kr Tw.kr fun w => bn_sub (z := (i - l.length)) rfl Tw.om (wr_i64 Tw.om) w) ?_
       refine vv (i := 30) (v := .int .i64 (mkI (i - l.length))) rfl rfl rfl (yb_call (f := 79) (args := #[.int .i64 1, .int .i64 (((i - l.length) : Nat) : Int)]) Tw.kf fun W hW => mark_any 1 (((i - l.length) : Nat) : Int) Tw.om Tw.om W) ?_
       refine vp (i := 31) (v := .bool (decide (y1 = (mkI (i - l.length))))) rfl rfl rfl (run_bin rfl (vx := (.int .i64 y1)) (vy := (.int .i64 (mkI (i - l.length)))) Tw.kr Tw.kr fun w => bi_eql rfl w) ?_
       refine vp (i := 32) (v := .bool (!(decide (y1 = (mkI (i - l.length)))))) rfl rfl rfl (run_un rfl Tw.kr fun w => un_not w) ?_
       refine vm (i := 33) (v := .bool (!(decide (y1 = (mkI (i - l.length)))))) rfl rfl rfl ?_
       refine vm (i := 34) (v := .bool (!(decide (y1 = (mkI (i - l.length)))))) rfl rfl rfl ?_
       refine wpV_done Tw.kr (fun W8 hW8 => ?_) _
       change Code.wp ..
       cases hd3 : (decide (y1 = (mkI (i - l.length)))) with
       | false =>
         have h3 : ¬ (y1 = (mkI (i - l.length))) := of_decide_eq_false hd3
         clear hd3
         exact absurd (by rw [List.getElem?_append_right Tw.om, mkL_at Tw.om] at hy1; exact (Option.some.inj hy1).symm) h3
       | true =>
         have h3 : y1 = (mkI (i - l.length)) := of_decide_eq_true hd3
         clear hd3
         refine wp_cond_false rfl ?_
         refine wp_skip ?_
         change Code.wp ..
         refine wp_region_L _ hW8 ?_
         refine lm (v := .int .i64 ((i : Nat) : Int)) rfl rfl ?_
         refine lp (v := .int .i64 (((i + 1) : Nat) : Int)) rfl rfl (run_bin rfl (vx := (.int .i64 ((i : Nat) : Int))) (vy := (.int .i64 ((1 : Nat) : Int))) Tw.kr Tw.kr fun w => bn_add (z := (i + 1)) rfl (wr_i64 Tw.om) w) ?_
         refine lm (v := .int .i64 (((i + 1) : Nat) : Int)) rfl rfl ?_
         refine wpL_done (fun W9 hW9 => ?_)
         go_roundw
         case rel =>
           repeat apply Exists.intro
           exact ⟨⟨i + 1, Tw.om, rfl, (hW9.sub (fun p hp => by first | exact hp | (simp only [List.mem_cons, List.mem_append, List.nil_append, List.not_mem_nil, or_assoc, or_false, false_or] at hp ⊢ <;> grind)))⟩, rfl⟩
         case measure => (show l.length + 12 - (intOf (.int .i64 (((i + 1) : Nat) : Int))).toNat < l.length + 12 - (intOf (.int .i64 ((i : Nat) : Int))).toNat); simp only [intOf]; omega
     | true =>
       have h2 : i < l.length := of_decide_eq_true hd2
       clear hd2
       refine vm (i := 5) (v := .slice p (l.length + 12) c) rfl rfl rfl ?_
       refine vm (i := 6) (v := .int .i64 ((i : Nat) : Int)) rfl rfl rfl ?_
       obtain ⟨y2, g2_, f2_, hy2, hp2, hc2⟩ := RL.at (RL.base HP.out) inC_len (by decide) (hW6.sub (fun _ h => by cases h)) (k := i) Tw.om
       refine vp (i := 7) (v := .pointer (some ⟨g2_, f2_ + i * 1, none⟩)) rfl rfl rfl (run_idxQ (p := p) (cap := c) (n := (l.length + 12)) (j := .i64) (k := i) (sz := 1) rfl Tryd.underlying63 Tw.kr Tw.kr hp2 Tw.kr Tw.om) ?_
       refine vb (i := 8) (v := .int .i64 y2) rfl rfl rfl (yb_rf (v := .int .i64 y2) rfl Tw.kr (fun W hW => hc2 W (hW.sub (fun _ h => by cases h)) 0 _ rfl) Tryd.underlying3 rfl) ?_
       refine vm (i := 9) (v := .slice q l.length d) rfl rfl rfl ?_
       refine vm (i := 10) (v := .int .i64 ((i : Nat) : Int)) rfl rfl rfl ?_
       obtain ⟨y3, g3_, f3_, hy3, hp3, hc3⟩ := RL.at (RL.base HQ.out) inC_len (by decide) (hW6.sub (fun _ h => by cases h)) (k := i) Tw.om
       refine vp (i := 11) (v := .pointer (some ⟨g3_, f3_ + i * 1, none⟩)) rfl rfl rfl (run_idxQ (p := q) (cap := d) (n := l.length) (j := .i64) (k := i) (sz := 1) rfl Tryd.underlying63 Tw.kr Tw.kr hp3 Tw.kr Tw.om) ?_
       refine vb (i := 12) (v := .int .i64 y3) rfl rfl rfl (yb_rf (v := .int .i64 y3) rfl Tw.kr (fun W hW => hc3 W (hW.sub (fun _ h => by cases h)) 0 _ rfl) Tryd.underlying3 rfl) ?_
       refine vp (i := 13) (v := .bool (decide (y2 = y3))) rfl rfl rfl (run_bin rfl (vx := (.int .i64 y2)) (vy := (.int .i64 y3)) Tw.kr Tw.kr fun w => bi_eql rfl w) ?_
       refine vp (i := 14) (v := .bool (!(decide (y2 = y3)))) rfl rfl rfl (run_un rfl Tw.kr fun w => un_not w) ?_
       refine vm (i := 15) (v := .bool (!(decide (y2 = y3)))) rfl rfl rfl ?_
       refine vm (i := 16) (v := .bool (!(decide (y2 = y3)))) rfl rfl rfl ?_
       cases hd4 : (decide (y2 = y3)) with
       | false =>
         have h4 : ¬ (y2 = y3) := of_decide_eq_false hd4
         clear hd4
         exact absurd (by rw [List.getElem?_append_left Tw.om] at hy2; rw [hy2] at hy3; exact Option.some.inj hy3) h4
       | true =>
         have h4 : y2 = y3 := of_decide_eq_true hd4
         clear hd4
         refine vm (i := 17) (v := .int .i64 ((i : Nat) : Int)) rfl rfl rfl ?_
         refine vm (i := 18) (v := .slice q l.length d) rfl rfl rfl ?_
         refine vp (i := 19) (v := .int .i64 ((l.length : Nat) : Int)) rfl rfl rfl (run_lenL (p := q) (cap := d) (n := l.length) rfl Tryd.underlying63 Tw.kr) ?_
         refine vp (i := 20) (v := .bool false) rfl rfl rfl (run_bin rfl (vx := (.int .i64 ((i : Nat) : Int))) (vy := (.int .i64 ((l.length : Nat) : Int))) Tw.kr Tw.kr fun w => bn_geq (decide_eq_true (by assumption)) w) ?_
         refine vm (i := 21) (v := .bool false) rfl rfl rfl ?_
         refine vn (i := 22) rfl rfl ?_
         refine vn (i := 23) rfl rfl ?_
         refine vn (i := 24) rfl rfl ?_
         refine vn (i := 25) rfl rfl ?_
         refine vn (i := 26) rfl rfl ?_
         refine vn (i := 27) rfl rfl ?_
         refine vn (i := 28) rfl rfl ?_
         refine vn (i := 29) rfl rfl ?_
         refine vn (i := 30) rfl rfl ?_
         refine vn (i := 31) rfl rfl ?_
         refine vn (i := 32) rfl rfl ?_
         refine vm (i := 33) (v := .bool false) rfl rfl rfl ?_
         refine vm (i := 34) (v := .bool false) rfl rfl rfl ?_
         refine wpV_done Tw.kr (fun W10 hW10 => ?_) _
         change Code.wp ..
         refine wp_cond_false rfl ?_
         refine wp_skip ?_
         change Code.wp ..
         refine wp_region_L _ hW10 ?_
         refine lm (v := .int .i64 ((i : Nat) : Int)) rfl rfl ?_
         refine lp (v := .int .i64 (((i + 1) : Nat) : Int)) rfl rfl (run_bin rfl (vx := (.int .i64 ((i : Nat) : Int))) (vy := (.int .i64 ((1 : Nat) : Int))) Tw.kr Tw.kr fun w => bn_add (z := (i + 1)) rfl (wr_i64 Tw.om) w) ?_
         refine lm (v := .int .i64 (((i + 1) : Nat) : Int)) rfl rfl ?_
         refine wpL_done (fun W11 hW11 => ?_)
         go_roundw
         case rel =>
           repeat apply Exists.intro
           exact ⟨⟨i + 1, Tw.om, rfl, (hW11.sub (fun p hp => by first | exact hp | (simp only [List.mem_cons, List.mem_append, List.nil_append, List.not_mem_nil, or_assoc, or_false, false_or] at hp ⊢ <;> grind)))⟩, rfl⟩
         case measure => (show l.length + 12 - (intOf (.int .i64 (((i + 1) : Nat) : Int))).toNat < l.length + 12 - (intOf (.int .i64 ((i : Nat) : Int))).toNat); simp only [intOf]; omega
end Go.Proofs.YtlinjngifacmoaaDoor
/- Small ships, as the law takes them. -/
namespace Go.Proofs.YtlinjngifacmoaaDoor
open Go Go.RowKit Tw
def fewX (cs : List Col) (os : List Cov) : Bool := decide (cs.length ≤ 250) && decide (os.length ≤ 60) && cs.all (fun c => decide (c.plugs.length ≤ 12)) && os.all (fun o => decide (o.rows.length ≤ 40))
theorem few_yes {cs : List Col} {os : List Cov} (h1 : ¬ 250 < cs.length) (h2 : ¬ 60 < os.length) (h3 : ∀ j c, j < cs.length → cs[j]? = some c → c.plugs.length ≤ 12) (h4 : ∀ j o, j < os.length → os[j]? = some o → o.rows.length ≤ 40) : fewX cs os = true := by
 unfold fewX
 rw [decide_eq_true (show cs.length ≤ 250 by omega), decide_eq_true (show os.length ≤ 60 by omega)]
 simp only [Bool.true_and, Bool.and_eq_true, List.all_eq_true, decide_eq_true_eq]
 refine ⟨fun c hm => ?_, fun o hm => ?_⟩
 · obtain ⟨j, hj⟩ := List.getElem?_of_mem hm
   exact h3 j c (List.getElem?_eq_some_iff.1 hj).1 hj
 · obtain ⟨j, hj⟩ := List.getElem?_of_mem hm
   exact h4 j o (List.getElem?_eq_some_iff.1 hj).1 hj
theorem few_is {cs : List Col} {os : List Cov} (hb : fewX cs os = true) : cs.length ≤ 250 ∧ os.length ≤ 60 ∧ (∀ c ∈ cs, c.plugs.length ≤ 12) ∧ ∀ o ∈ os, o.rows.length ≤ 40 := by
 unfold fewX at hb
 simp only [Bool.and_eq_true, List.all_eq_true, decide_eq_true_eq] at hb
 exact ⟨hb.1.1.1, hb.1.1.2, hb.1.2, hb.2⟩
end Go.Proofs.YtlinjngifacmoaaDoor
namespace Go.Proofs.YtlinjngifacmoaaDoor
open Go Go.RowKit Tw
end Go.Proofs.YtlinjngifacmoaaDoor
namespace Go.Proofs.YtlinjngifacmoaaDoor
open Go Go.RowKit Tw
def Cov.re (y : Cov) (q : Option Addr) (d : Nat) : Cov := { y with rp := q, rc := d }
def Col.re (y : Col) (q : Option Addr) (d : Nat) : Col := { y with pp := q, pc := d }
theorem SameInts_yes (l : List Int) (p q : Option Addr) (c d : Nat) (hl : l.length ≤ 4000000000) (w : World) (hp : SLV w p (l.flatMap inC)) (hq : SLV w q (l.flatMap inC)) : Calls Tryd.prog 110 #[.slice p l.length c, .slice q l.length d] w fun e w' => e = .returned (.bool true) ∧ Below w.heap.size w w' := by
 have h := SameInts_any l l p q c d hl w hp hq
 rwa [decide_eq_true (rfl : l = l)] at h
set_option maxRecDepth 100000 in
set_option maxHeartbeats 4000000 in
theorem SameCover_any (y : Cov) (q : Option Addr) (d : Nat) (hl : y.rows.length ≤ 4000000000) (w : World) (hp : SLV w y.rp (y.rows.flatMap inC)) (hq : SLV w q (y.rows.flatMap inC)) : Calls Tryd.prog 93 #[.agg (covC y).toArray, .agg (covC (y.re q d)).toArray] w fun e w' => e = .returned (.bool true) ∧ Below w.heap.size w w' := by
 have HP := Lib.hid hp
 clear hp
 have HQ := Lib.hid hq
 clear hq
 go_enter Tryd.func93, Tryd.ntmps93
 refine wp_seq ?_
 refine wp_region_L [] (KS.start w) ?_
 refine wpL_new (fun g => .pointer (some ⟨g, 0, none⟩)) (obi := .cells (covC y).toArray 67 (0, 0)) rfl rfl Tw.kf Tw.pf fun g1 Bg1 Fg1 => ?_
 refine wpL_new (fun g => .pointer (some ⟨g, 0, none⟩)) (obi := .cells (covC (y.re q d)).toArray 67 (0, 0)) rfl rfl Tw.kf Tw.pf fun g2 Bg2 Fg2 => ?_
 obtain dj3_0 : g1 ≠ g2 := Tw.dkf Fg2
 refine lm (v := .bool false) rfl rfl ?_
 refine wpL_done (fun W1 hW1 => ?_)
 change Code.wp ..
 refine wp_seq ?_
 refine wp_region_L _ hW1 ?_
 refine lm (v := .pointer (some ⟨g1, 0, none⟩)) rfl rfl ?_
 refine lv (v := .int .i64 y.bay) rfl rfl (yb_cell (off := 0) rfl Tw.kr Tw.m1 Tryd.underlying3 rfl Tw.kr) ?_
 refine lm (v := .pointer (some ⟨g2, 0, none⟩)) rfl rfl ?_
 refine lv (v := .int .i64 ((y.re q d).bay)) rfl rfl (yb_cell (off := 0) rfl Tw.kr Tw.m0 Tryd.underlying3 rfl Tw.kr) ?_
 refine lp (v := .bool (decide (y.bay = ((y.re q d).bay)))) rfl rfl (run_bin rfl (vx := (.int .i64 y.bay)) (vy := (.int .i64 ((y.re q d).bay))) Tw.kr Tw.kr fun w => bi_eql rfl w) ?_
 refine lm (v := .bool (decide (y.bay = ((y.re q d).bay)))) rfl rfl ?_
 cases hd1 : (decide (y.bay = ((y.re q d).bay))) with
 | false =>
   have h1 : ¬ (y.bay = ((y.re q d).bay)) := of_decide_eq_false hd1
   clear hd1
   exact absurd rfl h1
 | true =>
   have h1 : y.bay = ((y.re q d).bay) := of_decide_eq_true hd1
   clear hd1
   refine lm (v := .pointer (some ⟨g1, 1, none⟩)) rfl rfl ?_
   refine lv (v := .slice y.rp y.rows.length y.rc) rfl rfl (yb_cell (off := 1) rfl Tw.kr Tw.m1 Tryd.underlying63 rfl Tw.kr) ?_
   refine lm (v := .pointer (some ⟨g2, 1, none⟩)) rfl rfl ?_
   refine lv (v := .slice ((y.re q d).rp) (((y.re q d).rows).length) ((y.re q d).rc)) rfl rfl (yb_cell (off := 1) rfl Tw.kr Tw.m0 Tryd.underlying63 rfl Tw.kr) ?_
   refine lv (v := .bool true) rfl rfl (yb_call (f := 110) (args := #[.slice y.rp y.rows.length y.rc, .slice ((y.re q d).rp) (((y.re q d).rows).length) ((y.re q d).rc)]) Tw.kf fun W hW => SameInts_yes y.rows y.rp q y.rc d hl W ((RL.base HP.out) _ (hW.sub (fun _ h => by cases h))) ((RL.base HQ.out) _ (hW.sub (fun _ h => by cases h)))) ?_
   refine lm (v := .bool true) rfl rfl ?_
   refine lm (v := .bool true) rfl rfl ?_
   refine wpL_done (fun W2 hW2 => ?_)
   change Code.wp ..
   refine wp_ret ?_
   try simp only [inBlock_ret, then_ret]
   refine bodyPost_ret (v := .bool true) ?_ rfl ?_
   · kernel_rfl
   · exact ⟨rfl, hW2.1⟩
set_option maxRecDepth 100000 in
set_option maxHeartbeats 4000000 in
theorem SameColumn_any (y : Col) (q : Option Addr) (d : Nat) (hl : y.plugs.length ≤ 4000000000) (w : World) (hp : SLV w y.pp (y.plugs.flatMap inC)) (hq : SLV w q (y.plugs.flatMap inC)) : Calls Tryd.prog 91 #[.agg (colC y).toArray, .agg (colC (y.re q d)).toArray] w fun e w' => e = .returned (.bool true) ∧ Below w.heap.size w w' := by
 have HP := Lib.hid hp
 clear hp
 have HQ := Lib.hid hq
 clear hq
 go_enter Tryd.func91, Tryd.ntmps91
 refine wp_seq ?_
 refine wp_region_L [] (KS.start w) ?_
 refine wpL_new (fun g => .pointer (some ⟨g, 0, none⟩)) (obi := .cells (colC y).toArray 65 (0, 0)) rfl rfl Tw.kf Tw.pf fun g1 Bg1 Fg1 => ?_
 refine wpL_new (fun g => .pointer (some ⟨g, 0, none⟩)) (obi := .cells (colC (y.re q d)).toArray 65 (0, 0)) rfl rfl Tw.kf Tw.pf fun g2 Bg2 Fg2 => ?_
 obtain dj3_0 : g1 ≠ g2 := Tw.dkf Fg2
 refine lm (v := .bool false) rfl rfl ?_
 refine wpL_done (fun W1 hW1 => ?_)
 change Code.wp ..
 refine wp_seq ?_
 refine wp_region_L _ hW1 ?_
 refine lm (v := .pointer (some ⟨g1, 0, none⟩)) rfl rfl ?_
 refine lv (v := .int .i64 y.bay) rfl rfl (yb_cell (off := 0) rfl Tw.kr Tw.m1 Tryd.underlying3 rfl Tw.kr) ?_
 refine lm (v := .pointer (some ⟨g2, 0, none⟩)) rfl rfl ?_
 refine lv (v := .int .i64 ((y.re q d).bay)) rfl rfl (yb_cell (off := 0) rfl Tw.kr Tw.m0 Tryd.underlying3 rfl Tw.kr) ?_
 refine lp (v := .bool (decide (y.bay = ((y.re q d).bay)))) rfl rfl (run_bin rfl (vx := (.int .i64 y.bay)) (vy := (.int .i64 ((y.re q d).bay))) Tw.kr Tw.kr fun w => bi_eql rfl w) ?_
 refine lm (v := .bool (decide (y.bay = ((y.re q d).bay)))) rfl rfl ?_
 cases hd1 : (decide (y.bay = ((y.re q d).bay))) with
 | false =>
   have h1 : ¬ (y.bay = ((y.re q d).bay)) := of_decide_eq_false hd1
   clear hd1
   exact absurd rfl h1
 | true =>
   have h1 : y.bay = ((y.re q d).bay) := of_decide_eq_true hd1
   clear hd1
   refine lm (v := .pointer (some ⟨g1, 1, none⟩)) rfl rfl ?_
   refine lv (v := .int .i64 y.row) rfl rfl (yb_cell (off := 1) rfl Tw.kr Tw.m1 Tryd.underlying3 rfl Tw.kr) ?_
   refine lm (v := .pointer (some ⟨g2, 1, none⟩)) rfl rfl ?_
   refine lv (v := .int .i64 ((y.re q d).row)) rfl rfl (yb_cell (off := 1) rfl Tw.kr Tw.m0 Tryd.underlying3 rfl Tw.kr) ?_
   refine lp (v := .bool (decide (y.row = ((y.re q d).row)))) rfl rfl (run_bin rfl (vx := (.int .i64 y.row)) (vy := (.int .i64 ((y.re q d).row))) Tw.kr Tw.kr fun w => bi_eql rfl w) ?_
   refine lm (v := .bool (decide (y.row = ((y.re q d).row)))) rfl rfl ?_
   refine lm (v := .bool (decide (y.row = ((y.re q d).row)))) rfl rfl ?_
   cases hd2 : (decide (y.row = ((y.re q d).row))) with
   | false =>
     have h2 : ¬ (y.row = ((y.re q d).row)) := of_decide_eq_false hd2
     clear hd2
     exact absurd rfl h2
   | true =>
     have h2 : y.row = ((y.re q d).row) := of_decide_eq_true hd2
     clear hd2
     refine lm (v := .pointer (some ⟨g1, 2, none⟩)) rfl rfl ?_
     refine lv (v := .bool y.deck) rfl rfl (yb_cell (off := 2) rfl Tw.kr Tw.m1 Tryd.underlying4 rfl Tw.kr) ?_
     refine lm (v := .pointer (some ⟨g2, 2, none⟩)) rfl rfl ?_
     refine lv (v := .bool ((y.re q d).deck)) rfl rfl (yb_cell (off := 2) rfl Tw.kr Tw.m0 Tryd.underlying4 rfl Tw.kr) ?_
     refine lp (v := .bool (y.deck == ((y.re q d).deck))) rfl rfl (run_bin rfl (vx := .bool y.deck) (vy := .bool ((y.re q d).deck)) Tw.kr Tw.kr fun w => bn_bool_eql rfl Tryd.underlying4 w) ?_
     refine lm (v := .bool (y.deck == ((y.re q d).deck))) rfl rfl ?_
     refine lm (v := .bool (y.deck == ((y.re q d).deck))) rfl rfl ?_
     cases h3 : (y.deck == ((y.re q d).deck)) with
     | false =>
       exact absurd (show (y.deck == ((y.re q d).deck)) = true from beq_self_eq_true y.deck) (by rw [h3]; exact Bool.false_ne_true)
     | true =>
       refine lm (v := .pointer (some ⟨g1, 3, none⟩)) rfl rfl ?_
       refine lv (v := .int .i64 y.tiers) rfl rfl (yb_cell (off := 3) rfl Tw.kr Tw.m1 Tryd.underlying3 rfl Tw.kr) ?_
       refine lm (v := .pointer (some ⟨g2, 3, none⟩)) rfl rfl ?_
       refine lv (v := .int .i64 ((y.re q d).tiers)) rfl rfl (yb_cell (off := 3) rfl Tw.kr Tw.m0 Tryd.underlying3 rfl Tw.kr) ?_
       refine lp (v := .bool (decide (y.tiers = ((y.re q d).tiers)))) rfl rfl (run_bin rfl (vx := (.int .i64 y.tiers)) (vy := (.int .i64 ((y.re q d).tiers))) Tw.kr Tw.kr fun w => bi_eql rfl w) ?_
       refine lm (v := .bool (decide (y.tiers = ((y.re q d).tiers)))) rfl rfl ?_
       refine lm (v := .bool (decide (y.tiers = ((y.re q d).tiers)))) rfl rfl ?_
       cases hd4 : (decide (y.tiers = ((y.re q d).tiers))) with
       | false =>
         have h4 : ¬ (y.tiers = ((y.re q d).tiers)) := of_decide_eq_false hd4
         clear hd4
         exact absurd rfl h4
       | true =>
         have h4 : y.tiers = ((y.re q d).tiers) := of_decide_eq_true hd4
         clear hd4
         refine lm (v := .pointer (some ⟨g1, 4, none⟩)) rfl rfl ?_
         refine lv (v := .int .i64 y.height) rfl rfl (yb_cell (off := 4) rfl Tw.kr Tw.m1 Tryd.underlying3 rfl Tw.kr) ?_
         refine lm (v := .pointer (some ⟨g2, 4, none⟩)) rfl rfl ?_
         refine lv (v := .int .i64 ((y.re q d).height)) rfl rfl (yb_cell (off := 4) rfl Tw.kr Tw.m0 Tryd.underlying3 rfl Tw.kr) ?_
         refine lp (v := .bool (decide (y.height = ((y.re q d).height)))) rfl rfl (run_bin rfl (vx := (.int .i64 y.height)) (vy := (.int .i64 ((y.re q d).height))) Tw.kr Tw.kr fun w => bi_eql rfl w) ?_
         refine lm (v := .bool (decide (y.height = ((y.re q d).height)))) rfl rfl ?_
         refine lm (v := .bool (decide (y.height = ((y.re q d).height)))) rfl rfl ?_
         cases hd5 : (decide (y.height = ((y.re q d).height))) with
         | false =>
           have h5 : ¬ (y.height = ((y.re q d).height)) := of_decide_eq_false hd5
           clear hd5
           exact absurd rfl h5
         | true =>
           have h5 : y.height = ((y.re q d).height) := of_decide_eq_true hd5
           clear hd5
           refine lm (v := .pointer (some ⟨g1, 5, none⟩)) rfl rfl ?_
           refine lv (v := .int .i64 y.k20) rfl rfl (yb_cell (off := 5) rfl Tw.kr Tw.m1 Tryd.underlying3 rfl Tw.kr) ?_
           refine lm (v := .pointer (some ⟨g2, 5, none⟩)) rfl rfl ?_
           refine lv (v := .int .i64 ((y.re q d).k20)) rfl rfl (yb_cell (off := 5) rfl Tw.kr Tw.m0 Tryd.underlying3 rfl Tw.kr) ?_
           refine lp (v := .bool (decide (y.k20 = ((y.re q d).k20)))) rfl rfl (run_bin rfl (vx := (.int .i64 y.k20)) (vy := (.int .i64 ((y.re q d).k20))) Tw.kr Tw.kr fun w => bi_eql rfl w) ?_
           refine lm (v := .bool (decide (y.k20 = ((y.re q d).k20)))) rfl rfl ?_
           refine lm (v := .bool (decide (y.k20 = ((y.re q d).k20)))) rfl rfl ?_
           cases hd6 : (decide (y.k20 = ((y.re q d).k20))) with
           | false =>
             have h6 : ¬ (y.k20 = ((y.re q d).k20)) := of_decide_eq_false hd6
             clear hd6
             exact absurd rfl h6
           | true =>
             have h6 : y.k20 = ((y.re q d).k20) := of_decide_eq_true hd6
             clear hd6
             refine lm (v := .pointer (some ⟨g1, 6, none⟩)) rfl rfl ?_
             refine lv (v := .int .i64 y.k40) rfl rfl (yb_cell (off := 6) rfl Tw.kr Tw.m1 Tryd.underlying3 rfl Tw.kr) ?_
             refine lm (v := .pointer (some ⟨g2, 6, none⟩)) rfl rfl ?_
             refine lv (v := .int .i64 ((y.re q d).k40)) rfl rfl (yb_cell (off := 6) rfl Tw.kr Tw.m0 Tryd.underlying3 rfl Tw.kr) ?_
             refine lp (v := .bool (decide (y.k40 = ((y.re q d).k40)))) rfl rfl (run_bin rfl (vx := (.int .i64 y.k40)) (vy := (.int .i64 ((y.re q d).k40))) Tw.kr Tw.kr fun w => bi_eql rfl w) ?_
             refine lm (v := .bool (decide (y.k40 = ((y.re q d).k40)))) rfl rfl ?_
             refine lm (v := .bool (decide (y.k40 = ((y.re q d).k40)))) rfl rfl ?_
             cases hd7 : (decide (y.k40 = ((y.re q d).k40))) with
             | false =>
               have h7 : ¬ (y.k40 = ((y.re q d).k40)) := of_decide_eq_false hd7
               clear hd7
               exact absurd rfl h7
             | true =>
               have h7 : y.k40 = ((y.re q d).k40) := of_decide_eq_true hd7
               clear hd7
               refine lm (v := .pointer (some ⟨g1, 7, none⟩)) rfl rfl ?_
               refine lv (v := .int .i64 y.lash) rfl rfl (yb_cell (off := 7) rfl Tw.kr Tw.m1 Tryd.underlying3 rfl Tw.kr) ?_
               refine lm (v := .pointer (some ⟨g2, 7, none⟩)) rfl rfl ?_
               refine lv (v := .int .i64 ((y.re q d).lash)) rfl rfl (yb_cell (off := 7) rfl Tw.kr Tw.m0 Tryd.underlying3 rfl Tw.kr) ?_
               refine lp (v := .bool (decide (y.lash = ((y.re q d).lash)))) rfl rfl (run_bin rfl (vx := (.int .i64 y.lash)) (vy := (.int .i64 ((y.re q d).lash))) Tw.kr Tw.kr fun w => bi_eql rfl w) ?_
               refine lm (v := .bool (decide (y.lash = ((y.re q d).lash)))) rfl rfl ?_
               refine lm (v := .bool (decide (y.lash = ((y.re q d).lash)))) rfl rfl ?_
               cases hd8 : (decide (y.lash = ((y.re q d).lash))) with
               | false =>
                 have h8 : ¬ (y.lash = ((y.re q d).lash)) := of_decide_eq_false hd8
                 clear hd8
                 exact absurd rfl h8
               | true =>
                 have h8 : y.lash = ((y.re q d).lash) := of_decide_eq_true hd8
                 clear hd8
                 refine lm (v := .pointer (some ⟨g1, 8, none⟩)) rfl rfl ?_
                 refine lv (v := .slice y.pp y.plugs.length y.pc) rfl rfl (yb_cell (off := 8) rfl Tw.kr Tw.m1 Tryd.underlying63 rfl Tw.kr) ?_
                 refine lm (v := .pointer (some ⟨g2, 8, none⟩)) rfl rfl ?_
                 refine lv (v := .slice ((y.re q d).pp) (((y.re q d).plugs).length) ((y.re q d).pc)) rfl rfl (yb_cell (off := 8) rfl Tw.kr Tw.m0 Tryd.underlying63 rfl Tw.kr) ?_
                 refine lv (v := .bool true) rfl rfl (yb_call (f := 110) (args := #[.slice y.pp y.plugs.length y.pc, .slice ((y.re q d).pp) (((y.re q d).plugs).length) ((y.re q d).pc)]) Tw.kf fun W hW => SameInts_yes y.plugs y.pp q y.pc d hl W ((RL.base HP.out) _ (hW.sub (fun _ h => by cases h))) ((RL.base HQ.out) _ (hW.sub (fun _ h => by cases h)))) ?_
                 refine lm (v := .bool true) rfl rfl ?_
                 refine lm (v := .bool true) rfl rfl ?_
                 refine lm (v := .pointer (some ⟨g1, 9, none⟩)) rfl rfl ?_
                 refine lv (v := .int .i64 y.x) rfl rfl (yb_cell (off := 9) rfl Tw.kr Tw.m1 Tryd.underlying3 rfl Tw.kr) ?_
                 refine lm (v := .pointer (some ⟨g2, 9, none⟩)) rfl rfl ?_
                 refine lv (v := .int .i64 ((y.re q d).x)) rfl rfl (yb_cell (off := 9) rfl Tw.kr Tw.m0 Tryd.underlying3 rfl Tw.kr) ?_
                 refine lp (v := .bool (decide (y.x = ((y.re q d).x)))) rfl rfl (run_bin rfl (vx := (.int .i64 y.x)) (vy := (.int .i64 ((y.re q d).x))) Tw.kr Tw.kr fun w => bi_eql rfl w) ?_
                 refine lm (v := .bool (decide (y.x = ((y.re q d).x)))) rfl rfl ?_
                 refine lm (v := .bool (decide (y.x = ((y.re q d).x)))) rfl rfl ?_
                 cases hd9 : (decide (y.x = ((y.re q d).x))) with
                 | false =>
                   have h9 : ¬ (y.x = ((y.re q d).x)) := of_decide_eq_false hd9
                   clear hd9
                   exact absurd rfl h9
                 | true =>
                   have h9 : y.x = ((y.re q d).x) := of_decide_eq_true hd9
                   clear hd9
                   refine lm (v := .pointer (some ⟨g1, 10, none⟩)) rfl rfl ?_
                   refine lv (v := .int .i64 y.y) rfl rfl (yb_cell (off := 10) rfl Tw.kr Tw.m1 Tryd.underlying3 rfl Tw.kr) ?_
                   refine lm (v := .pointer (some ⟨g2, 10, none⟩)) rfl rfl ?_
                   refine lv (v := .int .i64 ((y.re q d).y)) rfl rfl (yb_cell (off := 10) rfl Tw.kr Tw.m0 Tryd.underlying3 rfl Tw.kr) ?_
                   refine lp (v := .bool (decide (y.y = ((y.re q d).y)))) rfl rfl (run_bin rfl (vx := (.int .i64 y.y)) (vy := (.int .i64 ((y.re q d).y))) Tw.kr Tw.kr fun w => bi_eql rfl w) ?_
                   refine lm (v := .bool (decide (y.y = ((y.re q d).y)))) rfl rfl ?_
                   refine lm (v := .bool (decide (y.y = ((y.re q d).y)))) rfl rfl ?_
                   cases hd10 : (decide (y.y = ((y.re q d).y))) with
                   | false =>
                     have h10 : ¬ (y.y = ((y.re q d).y)) := of_decide_eq_false hd10
                     clear hd10
                     exact absurd rfl h10
                   | true =>
                     have h10 : y.y = ((y.re q d).y) := of_decide_eq_true hd10
                     clear hd10
                     refine lm (v := .pointer (some ⟨g1, 11, none⟩)) rfl rfl ?_
                     refine lv (v := .int .i64 y.z) rfl rfl (yb_cell (off := 11) rfl Tw.kr Tw.m1 Tryd.underlying3 rfl Tw.kr) ?_
                     refine lm (v := .pointer (some ⟨g2, 11, none⟩)) rfl rfl ?_
                     refine lv (v := .int .i64 ((y.re q d).z)) rfl rfl (yb_cell (off := 11) rfl Tw.kr Tw.m0 Tryd.underlying3 rfl Tw.kr) ?_
                     refine lp (v := .bool (decide (y.z = ((y.re q d).z)))) rfl rfl (run_bin rfl (vx := (.int .i64 y.z)) (vy := (.int .i64 ((y.re q d).z))) Tw.kr Tw.kr fun w => bi_eql rfl w) ?_
                     refine lm (v := .bool (decide (y.z = ((y.re q d).z)))) rfl rfl ?_
                     refine lm (v := .bool (decide (y.z = ((y.re q d).z)))) rfl rfl ?_
                     refine wpL_done (fun W2 hW2 => ?_)
                     change Code.wp ..
                     refine wp_ret ?_
                     try simp only [inBlock_ret, then_ret]
                     refine bodyPost_ret (v := .bool (decide (y.z = ((y.re q d).z)))) ?_ rfl ?_
                     · kernel_rfl
                     · exact ⟨(bool_is (decide_eq_true rfl)), hW2.1⟩
end Go.Proofs.YtlinjngifacmoaaDoor
namespace Go.Proofs.YtlinjngifacmoaaDoor
open Go Go.RowKit Tw
theorem slv_pre0 {W : World} {p : Option Addr} {l m : List Int} (h : SLV W p ((l ++ m).flatMap inC)) : SLV W p (l.flatMap inC) := by
 rw [List.flatMap_append] at h
 refine h.elim (fun e => .inl (List.append_eq_nil_iff.1 e).1) fun ⟨b, off, hp, hlt, hc⟩ => .inr ⟨b, off, hp, hlt, fun i u hu => hc i u ?_⟩
 rw [List.getElem?_append_left (List.getElem?_eq_some_iff.1 hu).1]
 exact hu
def mkCol (i : Nat) : Col := { bay := mkI i, row := 0, deck := false, tiers := 0, height := 0, k20 := 0, k40 := 0, lash := 0, plugs := [], pp := none, pc := 0, x := 0, y := 0, z := 0 }
def mkCov (i : Nat) : Cov := { bay := mkI i, rows := [], rp := none, rc := 0 }
set_option maxRecDepth 100000 in
set_option maxHeartbeats 4000000 in
theorem KeptCover_any (y : Cov) (q : Option Addr) (d : Nat) (hl : y.rows.length ≤ 1000000) (hd : y.rows.length + 12 ≤ d) (w : World) (hp : SLV w y.rp (y.rows.flatMap inC)) (hq : SLV w q ((y.rows ++ mkL 12).flatMap inC)) : Calls Tryd.prog 92 #[.agg (covC (y.re q d)).toArray, .agg (covC y).toArray] w fun e w' => e = .returned (.bool true) ∧ Below w.heap.size w w' := by
 have HP := Lib.hid hp
 clear hp
 have HQ := Lib.hid hq
 clear hq
 go_enter Tryd.func92, Tryd.ntmps92
 refine wp_seq ?_
 refine wp_region_L [] (KS.start w) ?_
 refine wpL_new (fun g => .pointer (some ⟨g, 0, none⟩)) (obi := .cells (covC (y.re q d)).toArray 67 (0, 0)) rfl rfl Tw.kf Tw.pf fun g1 Bg1 Fg1 => ?_
 refine wpL_new (fun g => .pointer (some ⟨g, 0, none⟩)) (obi := .cells (covC y).toArray 67 (0, 0)) rfl rfl Tw.kf Tw.pf fun g2 Bg2 Fg2 => ?_
 obtain dj3_0 : g1 ≠ g2 := Tw.dkf Fg2
 refine lm (v := .bool false) rfl rfl ?_
 refine wpL_done (fun W1 hW1 => ?_)
 change Code.wp ..
 refine wp_seq ?_
 refine wp_region_L _ hW1 ?_
 refine lv (v := .agg (covC (y.re q d)).toArray) rfl rfl (yb_load (n := 2) (off := 0) rfl Tw.kr Tw.m1 Tryd.underlying67 rfl Tw.kr (by first | (simp [Value.cells]; done) | exact Nat.le_of_ble_eq_true rfl) Tw.kr) ?_
 refine lv (v := .agg (covC y).toArray) rfl rfl (yb_load (n := 2) (off := 0) rfl Tw.kr Tw.m0 Tryd.underlying67 rfl Tw.kr (by first | (simp [Value.cells]; done) | exact Nat.le_of_ble_eq_true rfl) Tw.kr) ?_
 refine lv (v := .bool true) rfl rfl (yb_call (f := 93) (args := #[.agg (covC (y.re q d)).toArray, .agg (covC y).toArray]) Tw.kf fun W hW => SameCover_any (y.re q d) y.rp y.rc (show y.rows.length ≤ 4000000000 by omega) W (slv_pre0 (HQ.out.keep hW.1)) (HP.out.keep hW.1)) ?_
 refine lm (v := .bool true) rfl rfl ?_
 refine lm (v := .pointer (some ⟨g1, 1, none⟩)) rfl rfl ?_
 refine lv (v := .slice ((y.re q d).rp) (((y.re q d).rows).length) ((y.re q d).rc)) rfl rfl (yb_cell (off := 1) rfl Tw.kr Tw.m1 Tryd.underlying63 rfl Tw.kr) ?_
 refine lm (v := .pointer (some ⟨g2, 1, none⟩)) rfl rfl ?_
 refine lv (v := .slice y.rp y.rows.length y.rc) rfl rfl (yb_cell (off := 1) rfl Tw.kr Tw.m0 Tryd.underlying63 rfl Tw.kr) ?_
 refine lv (v := .bool true) rfl rfl (yb_call (f := 109) (args := #[.slice ((y.re q d).rp) (((y.re q d).rows).length) ((y.re q d).rc), .slice y.rp y.rows.length y.rc]) Tw.kf fun W hW => KeptInts_any y.rows q y.rp d y.rc hl hd W (HQ.out.keep hW.1) (HP.out.keep hW.1)) ?_
 refine lm (v := .bool true) rfl rfl ?_
 refine lm (v := .bool true) rfl rfl ?_
 refine wpL_done (fun W2 hW2 => ?_)
 change Code.wp ..
 refine wp_ret ?_
 try simp only [inBlock_ret, then_ret]
 refine bodyPost_ret (v := .bool true) ?_ rfl ?_
 · kernel_rfl
 · exact ⟨rfl, hW2.1⟩
set_option maxRecDepth 100000 in
set_option maxHeartbeats 4000000 in
theorem KeptColumn_any (y : Col) (q : Option Addr) (d : Nat) (hl : y.plugs.length ≤ 1000000) (hd : y.plugs.length + 12 ≤ d) (w : World) (hp : SLV w y.pp (y.plugs.flatMap inC)) (hq : SLV w q ((y.plugs ++ mkL 12).flatMap inC)) : Calls Tryd.prog 90 #[.agg (colC (y.re q d)).toArray, .agg (colC y).toArray] w fun e w' => e = .returned (.bool true) ∧ Below w.heap.size w w' := by
 have HP := Lib.hid hp
 clear hp
 have HQ := Lib.hid hq
 clear hq
 go_enter Tryd.func90, Tryd.ntmps90
 refine wp_seq ?_
 refine wp_region_L [] (KS.start w) ?_
 refine wpL_new (fun g => .pointer (some ⟨g, 0, none⟩)) (obi := .cells (colC (y.re q d)).toArray 65 (0, 0)) rfl rfl Tw.kf Tw.pf fun g1 Bg1 Fg1 => ?_
 refine wpL_new (fun g => .pointer (some ⟨g, 0, none⟩)) (obi := .cells (colC y).toArray 65 (0, 0)) rfl rfl Tw.kf Tw.pf fun g2 Bg2 Fg2 => ?_
 obtain dj3_0 : g1 ≠ g2 := Tw.dkf Fg2
 refine lm (v := .bool false) rfl rfl ?_
 refine wpL_done (fun W1 hW1 => ?_)
 change Code.wp ..
 refine wp_seq ?_
 refine wp_region_L _ hW1 ?_
 refine lv (v := .agg (colC (y.re q d)).toArray) rfl rfl (yb_load (n := 12) (off := 0) rfl Tw.kr Tw.m1 Tryd.underlying65 rfl Tw.kr (by first | (simp [Value.cells]; done) | exact Nat.le_of_ble_eq_true rfl) Tw.kr) ?_
 refine lv (v := .agg (colC y).toArray) rfl rfl (yb_load (n := 12) (off := 0) rfl Tw.kr Tw.m0 Tryd.underlying65 rfl Tw.kr (by first | (simp [Value.cells]; done) | exact Nat.le_of_ble_eq_true rfl) Tw.kr) ?_
 refine lv (v := .bool true) rfl rfl (yb_call (f := 91) (args := #[.agg (colC (y.re q d)).toArray, .agg (colC y).toArray]) Tw.kf fun W hW => SameColumn_any (y.re q d) y.pp y.pc (show y.plugs.length ≤ 4000000000 by omega) W (slv_pre0 (HQ.out.keep hW.1)) (HP.out.keep hW.1)) ?_
 refine lm (v := .bool true) rfl rfl ?_
 refine lm (v := .pointer (some ⟨g1, 8, none⟩)) rfl rfl ?_
 refine lv (v := .slice ((y.re q d).pp) (((y.re q d).plugs).length) ((y.re q d).pc)) rfl rfl (yb_cell (off := 8) rfl Tw.kr Tw.m1 Tryd.underlying63 rfl Tw.kr) ?_
 refine lm (v := .pointer (some ⟨g2, 8, none⟩)) rfl rfl ?_
 refine lv (v := .slice y.pp y.plugs.length y.pc) rfl rfl (yb_cell (off := 8) rfl Tw.kr Tw.m0 Tryd.underlying63 rfl Tw.kr) ?_
 refine lv (v := .bool true) rfl rfl (yb_call (f := 109) (args := #[.slice ((y.re q d).pp) (((y.re q d).plugs).length) ((y.re q d).pc), .slice y.pp y.plugs.length y.pc]) Tw.kf fun W hW => KeptInts_any y.plugs q y.pp d y.pc hl hd W (HQ.out.keep hW.1) (HP.out.keep hW.1)) ?_
 refine lm (v := .bool true) rfl rfl ?_
 refine lm (v := .bool true) rfl rfl ?_
 refine wpL_done (fun W2 hW2 => ?_)
 change Code.wp ..
 refine wp_ret ?_
 try simp only [inBlock_ret, then_ret]
 refine bodyPost_ret (v := .bool true) ?_ rfl ?_
 · kernel_rfl
 · exact ⟨rfl, hW2.1⟩
set_option maxRecDepth 100000 in
set_option maxHeartbeats 4000000 in
theorem markCover_any (i : Nat) (hi : i ≤ 4000000000) (w : World) : Calls Tryd.prog 74 #[.int .i64 1, .int .i64 i] w fun e w' => e = .returned (.agg (covC (mkCov i)).toArray) ∧ Below w.heap.size w w' := by
 go_enter Tryd.func74, Tryd.ntmps74
 refine wp_seq ?_
 refine wp_region_L [] (KS.start w) ?_
 refine wpL_new (fun g => .pointer (some ⟨g, 0, none⟩)) (obi := .cells #[.int .i64 0, .slice none 0 0] 67 (0, 0)) rfl rfl Tw.kf Tw.pf fun g1 Bg1 Fg1 => ?_
 refine wpL_done (fun W1 hW1 => ?_)
 change Code.wp ..
 refine wp_seq ?_
 refine wp_region_L _ hW1 ?_
 refine lm (v := .int .i64 1) rfl rfl ?_
 refine lm (v := .int .i64 ((i : Nat) : Int)) rfl rfl ?_
 refine lv (v := .int .i64 (mkI i)) rfl rfl (yb_call (f := 79) (args := #[.int .i64 1, .int .i64 ((i : Nat) : Int)]) Tw.kf fun W hW => mark_any 1 ((i : Nat) : Int) Tw.om Tw.om W) ?_
 refine lm (v := .agg #[.int .i64 (mkI i), .slice none 0 0]) rfl rfl ?_
 refine wpL_s [(g1, .cells #[.int .i64 (mkI i), .slice none 0 0] 67 (0, 0))] rfl rfl (st_row (off := 0) (v := .agg #[.int .i64 (mkI i), .slice none 0 0]) rfl Tw.kr Tw.kr Tw.m0 Bg1 Tw.kr (by first | (simp [Value.cells]; done) | exact Nat.le_of_ble_eq_true rfl) (by intro v hv; simp [Value.cells] at hv; first | (subst hv; rfl) | (rcases hv with rfl | rfl <;> rfl)) Tw.kr (List.forall_mem_cons.2 ⟨.inl rfl, (List.forall_mem_nil _)⟩)) ?_
 refine wpL_done (fun W2 hW2 => ?_)
 change Code.wp ..
 refine wp_ret ?_
 try simp only [inBlock_ret, then_ret]
 refine bodyPost_ret (v := .agg #[.int .i64 (mkI i), .slice none 0 0]) ?_ rfl ?_
 · exact (res_cell (p := 4) rfl rfl (hW2.2 _ Tw.m0) Tryd.underlying67 rfl Tw.kr)
 · exact ⟨rfl, hW2.1⟩
set_option maxRecDepth 100000 in
set_option maxHeartbeats 4000000 in
theorem markColumn_any (i : Nat) (hi : i ≤ 4000000000) (w : World) : Calls Tryd.prog 72 #[.int .i64 1, .int .i64 i] w fun e w' => e = .returned (.agg (colC (mkCol i)).toArray) ∧ Below w.heap.size w w' := by
 go_enter Tryd.func72, Tryd.ntmps72
 refine wp_seq ?_
 refine wp_region_L [] (KS.start w) ?_
 refine wpL_new (fun g => .pointer (some ⟨g, 0, none⟩)) (obi := .cells #[.int .i64 0, .int .i64 0, .bool false, .int .i64 0, .int .i64 0, .int .i64 0, .int .i64 0, .int .i64 0, .slice none 0 0, .int .i64 0, .int .i64 0, .int .i64 0] 65 (0, 0)) rfl rfl Tw.kf Tw.pf fun g1 Bg1 Fg1 => ?_
 refine wpL_done (fun W1 hW1 => ?_)
 change Code.wp ..
 refine wp_seq ?_
 refine wp_region_L _ hW1 ?_
 refine lm (v := .int .i64 1) rfl rfl ?_
 refine lm (v := .int .i64 ((i : Nat) : Int)) rfl rfl ?_
 refine lv (v := .int .i64 (mkI i)) rfl rfl (yb_call (f := 79) (args := #[.int .i64 1, .int .i64 ((i : Nat) : Int)]) Tw.kf fun W hW => mark_any 1 ((i : Nat) : Int) Tw.om Tw.om W) ?_
 refine lm (v := .agg #[.int .i64 (mkI i), .int .i64 0, .bool false, .int .i64 0, .int .i64 0, .int .i64 0, .int .i64 0, .int .i64 0, .slice none 0 0, .int .i64 0, .int .i64 0, .int .i64 0]) rfl rfl ?_
 refine wpL_s [(g1, .cells #[.int .i64 (mkI i), .int .i64 0, .bool false, .int .i64 0, .int .i64 0, .int .i64 0, .int .i64 0, .int .i64 0, .slice none 0 0, .int .i64 0, .int .i64 0, .int .i64 0] 65 (0, 0))] rfl rfl (st_row (off := 0) (v := .agg #[.int .i64 (mkI i), .int .i64 0, .bool false, .int .i64 0, .int .i64 0, .int .i64 0, .int .i64 0, .int .i64 0, .slice none 0 0, .int .i64 0, .int .i64 0, .int .i64 0]) rfl Tw.kr Tw.kr Tw.m0 Bg1 Tw.kr (by first | (simp [Value.cells]; done) | exact Nat.le_of_ble_eq_true rfl) (by intro v hv; simp [Value.cells] at hv; first | (subst hv; rfl) | (rcases hv with rfl | rfl | rfl | rfl | rfl | rfl | rfl | rfl | rfl | rfl | rfl | rfl <;> rfl)) Tw.kr (List.forall_mem_cons.2 ⟨.inl rfl, (List.forall_mem_nil _)⟩)) ?_
 refine wpL_done (fun W2 hW2 => ?_)
 change Code.wp ..
 refine wp_ret ?_
 try simp only [inBlock_ret, then_ret]
 refine bodyPost_ret (v := .agg #[.int .i64 (mkI i), .int .i64 0, .bool false, .int .i64 0, .int .i64 0, .int .i64 0, .int .i64 0, .int .i64 0, .slice none 0 0, .int .i64 0, .int .i64 0, .int .i64 0]) ?_ rfl ?_
 · exact (res_cell (p := 4) rfl rfl (hW2.2 _ Tw.m0) Tryd.underlying65 rfl Tw.kr)
 · exact ⟨rfl, hW2.1⟩
end Go.Proofs.YtlinjngifacmoaaDoor
/- A list that was lent. -/
namespace Go.Proofs.YtlinjngifacmoaaDoor
open Go Go.RowKit Tw
def LentRL (W0 : Base) (E : TypeId) (sz n m : Nat) (xs : List Value) (K : List (Nat × Obj)) (v : Value) (K' : List (Nat × Obj)) : Prop :=
 ∃ p c Kl, v = .slice p n c ∧ m ≤ c ∧ OwnL W0 E sz (.slice p m c) m xs Kl ∧ (∀ p ∈ K, ∀ q ∈ Kl, q.1 ≠ p.1) ∧ K' = K ++ Kl
theorem LentRL.sub {W0 : Base} {E : TypeId} {sz n m : Nat} {xs : List Value} {K K' : List (Nat × Obj)} {v : Value} (h : LentRL W0 E sz n m xs K v K') : ∀ p ∈ K, p ∈ K' := by
 obtain ⟨_, _, _, _, _, _, _, rfl⟩ := h
 exact fun p hp => List.mem_append_left _ hp
theorem calls_lent {P : Program} {W0 : Base} {K : List (Nat × Obj)} {W : World} {E : TypeId} {sz n m : Nat} {xs : List Value} {f : FuncId} {args : Array Value} (hW : KS W0 K W) (h : Calls P f args W fun e w' => ∃ q d, e = .returned (.slice q n d) ∧ m ≤ d ∧ OutV W w' E sz (.slice q m d) m xs ∧ Below W.heap.size W w') :
   Calls P f args W fun e w' => ∃ v K', e = .returned v ∧ KS W0 K' w' ∧ LentRL W0 E sz n m xs K v K' :=
 h.mono fun e w' ⟨q, d, he, hm, hO, hb⟩ => by
   obtain ⟨Kl, h1, h2, h3⟩ := hO.own hW hb
   exact ⟨_, _, he, h3, q, d, Kl, rfl, hm, h1, h2, rfl⟩
end Go.Proofs.YtlinjngifacmoaaDoor
namespace Go.Proofs.YtlinjngifacmoaaDoor
open Go Go.RowKit Tw
set_option maxRecDepth 100000 in
set_option maxHeartbeats 4000000 in
theorem LentCover_any (y : Cov) (hl : y.rows.length ≤ 1000000) (w : World) (hp : SLV w y.rp (y.rows.flatMap inC)) : Calls Tryd.prog 73 #[.agg (covC y).toArray] w fun e w' => ∃ q d, e = .returned (.agg (covC (y.re q d)).toArray) ∧ y.rows.length + 12 ≤ d ∧ OutV w w' 3 1 (.slice q (y.rows ++ mkL 12).length d) (y.rows ++ mkL 12).length ((y.rows ++ mkL 12).flatMap inC) ∧ Below w.heap.size w w' := by
 have HP := Lib.hid hp
 clear hp
 have hlen : (y.rows ++ mkL 12).length = y.rows.length + 12 := by rw [List.length_append, mkL_len]
 go_enter Tryd.func73, Tryd.ntmps73
 refine wp_seq ?_
 refine wp_region_L [] (KS.start w) ?_
 refine wpL_new (fun g => .pointer (some ⟨g, 0, none⟩)) (obi := .cells (covC y).toArray 67 (0, 0)) rfl rfl Tw.kf Tw.pf fun g1 Bg1 Fg1 => ?_
 refine wpL_new (fun g => .pointer (some ⟨g, 0, none⟩)) (obi := .cells #[.int .i64 0, .slice none 0 0] 67 (0, 0)) rfl rfl Tw.kf Tw.pf fun g2 Bg2 Fg2 => ?_
 obtain dj3_0 : g1 ≠ g2 := Tw.dkf Fg2
 refine wpL_done (fun W1 hW1 => ?_)
 change Code.wp ..
 refine wp_seq ?_
 refine wp_region_L _ hW1 ?_
 refine lm (v := .pointer (some ⟨g1, 1, none⟩)) rfl rfl ?_
 refine lv (v := .slice y.rp y.rows.length y.rc) rfl rfl (yb_cell (off := 1) rfl Tw.kr Tw.m1 Tryd.underlying63 rfl Tw.kr) ?_
 refine wpL_c (f := 108) (args := #[.slice y.rp y.rows.length y.rc]) (LentRL w 3 1 y.rows.length (y.rows ++ mkL 12).length ((y.rows ++ mkL 12).flatMap inC) [(g2, .cells #[.int .i64 0, .slice none 0 0] 67 (0, 0)), (g1, .cells (covC y).toArray 67 (0, 0))]) rfl Tw.kr Tw.kf (fun W hW => calls_lent hW (((LentInts_any y.rows y.rp y.rc hl W (HP.out.keep hW.1)).mono fun _ _ ⟨q, d, h1, h2, h3⟩ => ⟨q, d, h1, by rw [hlen]; exact h2, h3⟩))) Tw.pf ?_
 rintro _ _ ⟨p4, c4, Kl4, rfl, n4, O4, N4, rfl⟩
 obtain ⟨dj5_0, dj5_1⟩ : Dk g2 Kl4 ∧ Dk g1 Kl4 := Tw.djf N4
 refine lm (v := .pointer (some ⟨g1, 1, none⟩)) rfl rfl ?_
 refine wpL_s ((g2, .cells #[.int .i64 0, .slice none 0 0] 67 (0, 0)) :: (g1, .cells #[.int .i64 y.bay, .slice p4 y.rows.length c4] 67 (0, 0)) :: Kl4) rfl rfl (st_row (off := 1) (v := .slice p4 y.rows.length c4) rfl Tw.kr Tw.kr Tw.m1 Bg1 Tw.kr (by first | (simp [Value.cells]; done) | exact Nat.le_of_ble_eq_true rfl) (by intro v hv; simp [Value.cells] at hv; first | (subst hv; rfl) | (rcases hv with rfl <;> rfl)) Tw.kr (List.forall_mem_cons.2 ⟨.inr ⟨Tw.m0, Tw.nee⟩, (List.forall_mem_cons.2 ⟨.inl rfl, (fun p hp => .inr ⟨(.tail _ (.tail _ hp)), ((show Dk g1 Kl4 from Tw.djt) _ hp)⟩)⟩)⟩)) ?_
 refine wpL_done (fun W2 hW2 => ?_)
 change Code.wp ..
 refine wp_seq ?_
 refine wp_region_L _ hW2 ?_
 refine lv (v := .agg #[.int .i64 y.bay, .slice p4 y.rows.length c4]) rfl rfl (yb_load (n := 2) (off := 0) rfl Tw.kr Tw.m1 Tryd.underlying67 rfl Tw.kr (by first | (simp [Value.cells]; done) | exact Nat.le_of_ble_eq_true rfl) Tw.kr) ?_
 refine wpL_s ((g2, .cells #[.int .i64 y.bay, .slice p4 y.rows.length c4] 67 (0, 0)) :: (g1, .cells #[.int .i64 y.bay, .slice p4 y.rows.length c4] 67 (0, 0)) :: Kl4) rfl rfl (st_row (off := 0) (v := .agg #[.int .i64 y.bay, .slice p4 y.rows.length c4]) rfl Tw.kr Tw.kr Tw.m0 Bg2 Tw.kr (by first | (simp [Value.cells]; done) | exact Nat.le_of_ble_eq_true rfl) (by intro v hv; simp [Value.cells] at hv; first | (subst hv; rfl) | (rcases hv with rfl | rfl <;> rfl)) Tw.kr (List.forall_mem_cons.2 ⟨.inl rfl, (List.forall_mem_cons.2 ⟨.inr ⟨Tw.m1, Tw.nee⟩, (fun p hp => .inr ⟨(.tail _ (.tail _ hp)), ((show Dk g2 Kl4 from Tw.djt) _ hp)⟩)⟩)⟩)) ?_
 refine wpL_done (fun W3 hW3 => ?_)
 change Code.wp ..
 refine wp_ret ?_
 try simp only [inBlock_ret, then_ret]
 refine bodyPost_ret (v := .agg #[.int .i64 y.bay, .slice p4 y.rows.length c4]) ?_ rfl ?_
 · exact (res_cell (p := 2) rfl rfl (hW3.2 _ Tw.m0) Tryd.underlying67 rfl Tw.kr)
 · exact ⟨p4, c4, rfl, by omega, O4.out (fun p hp => by simp only [List.mem_cons, List.mem_append, List.nil_append, List.not_mem_nil, or_assoc, or_false, false_or, hp, true_or, or_true]) hW3, hW3.1⟩
set_option maxRecDepth 100000 in
set_option maxHeartbeats 4000000 in
theorem LentColumn_any (y : Col) (hl : y.plugs.length ≤ 1000000) (w : World) (hp : SLV w y.pp (y.plugs.flatMap inC)) : Calls Tryd.prog 71 #[.agg (colC y).toArray] w fun e w' => ∃ q d, e = .returned (.agg (colC (y.re q d)).toArray) ∧ y.plugs.length + 12 ≤ d ∧ OutV w w' 3 1 (.slice q (y.plugs ++ mkL 12).length d) (y.plugs ++ mkL 12).length ((y.plugs ++ mkL 12).flatMap inC) ∧ Below w.heap.size w w' := by
 have HP := Lib.hid hp
 clear hp
 have hlen : (y.plugs ++ mkL 12).length = y.plugs.length + 12 := by rw [List.length_append, mkL_len]
 go_enter Tryd.func71, Tryd.ntmps71
 refine wp_seq ?_
 refine wp_region_L [] (KS.start w) ?_
 refine wpL_new (fun g => .pointer (some ⟨g, 0, none⟩)) (obi := .cells (colC y).toArray 65 (0, 0)) rfl rfl Tw.kf Tw.pf fun g1 Bg1 Fg1 => ?_
 refine wpL_new (fun g => .pointer (some ⟨g, 0, none⟩)) (obi := .cells #[.int .i64 0, .int .i64 0, .bool false, .int .i64 0, .int .i64 0, .int .i64 0, .int .i64 0, .int .i64 0, .slice none 0 0, .int .i64 0, .int .i64 0, .int .i64 0] 65 (0, 0)) rfl rfl Tw.kf Tw.pf fun g2 Bg2 Fg2 => ?_
 obtain dj3_0 : g1 ≠ g2 := Tw.dkf Fg2
 refine wpL_done (fun W1 hW1 => ?_)
 change Code.wp ..
 refine wp_seq ?_
 refine wp_region_L _ hW1 ?_
 refine lm (v := .pointer (some ⟨g1, 8, none⟩)) rfl rfl ?_
 refine lv (v := .slice y.pp y.plugs.length y.pc) rfl rfl (yb_cell (off := 8) rfl Tw.kr Tw.m1 Tryd.underlying63 rfl Tw.kr) ?_
 refine wpL_c (f := 108) (args := #[.slice y.pp y.plugs.length y.pc]) (LentRL w 3 1 y.plugs.length (y.plugs ++ mkL 12).length ((y.plugs ++ mkL 12).flatMap inC) [(g2, .cells #[.int .i64 0, .int .i64 0, .bool false, .int .i64 0, .int .i64 0, .int .i64 0, .int .i64 0, .int .i64 0, .slice none 0 0, .int .i64 0, .int .i64 0, .int .i64 0] 65 (0, 0)), (g1, .cells (colC y).toArray 65 (0, 0))]) rfl Tw.kr Tw.kf (fun W hW => calls_lent hW (((LentInts_any y.plugs y.pp y.pc hl W (HP.out.keep hW.1)).mono fun _ _ ⟨q, d, h1, h2, h3⟩ => ⟨q, d, h1, by rw [hlen]; exact h2, h3⟩))) Tw.pf ?_
 rintro _ _ ⟨p4, c4, Kl4, rfl, n4, O4, N4, rfl⟩
 obtain ⟨dj5_0, dj5_1⟩ : Dk g2 Kl4 ∧ Dk g1 Kl4 := Tw.djf N4
 refine lm (v := .pointer (some ⟨g1, 8, none⟩)) rfl rfl ?_
 refine wpL_s ((g2, .cells #[.int .i64 0, .int .i64 0, .bool false, .int .i64 0, .int .i64 0, .int .i64 0, .int .i64 0, .int .i64 0, .slice none 0 0, .int .i64 0, .int .i64 0, .int .i64 0] 65 (0, 0)) :: (g1, .cells #[.int .i64 y.bay, .int .i64 y.row, .bool y.deck, .int .i64 y.tiers, .int .i64 y.height, .int .i64 y.k20, .int .i64 y.k40, .int .i64 y.lash, .slice p4 y.plugs.length c4, .int .i64 y.x, .int .i64 y.y, .int .i64 y.z] 65 (0, 0)) :: Kl4) rfl rfl (st_row (off := 8) (v := .slice p4 y.plugs.length c4) rfl Tw.kr Tw.kr Tw.m1 Bg1 Tw.kr (by first | (simp [Value.cells]; done) | exact Nat.le_of_ble_eq_true rfl) (by intro v hv; simp [Value.cells] at hv; first | (subst hv; rfl) | (rcases hv with rfl <;> rfl)) Tw.kr (List.forall_mem_cons.2 ⟨.inr ⟨Tw.m0, Tw.nee⟩, (List.forall_mem_cons.2 ⟨.inl rfl, (fun p hp => .inr ⟨(.tail _ (.tail _ hp)), ((show Dk g1 Kl4 from Tw.djt) _ hp)⟩)⟩)⟩)) ?_
 refine wpL_done (fun W2 hW2 => ?_)
 change Code.wp ..
 refine wp_seq ?_
 refine wp_region_L _ hW2 ?_
 refine lv (v := .agg #[.int .i64 y.bay, .int .i64 y.row, .bool y.deck, .int .i64 y.tiers, .int .i64 y.height, .int .i64 y.k20, .int .i64 y.k40, .int .i64 y.lash, .slice p4 y.plugs.length c4, .int .i64 y.x, .int .i64 y.y, .int .i64 y.z]) rfl rfl (yb_load (n := 12) (off := 0) rfl Tw.kr Tw.m1 Tryd.underlying65 rfl Tw.kr (by first | (simp [Value.cells]; done) | exact Nat.le_of_ble_eq_true rfl) Tw.kr) ?_
 refine wpL_s ((g2, .cells #[.int .i64 y.bay, .int .i64 y.row, .bool y.deck, .int .i64 y.tiers, .int .i64 y.height, .int .i64 y.k20, .int .i64 y.k40, .int .i64 y.lash, .slice p4 y.plugs.length c4, .int .i64 y.x, .int .i64 y.y, .int .i64 y.z] 65 (0, 0)) :: (g1, .cells #[.int .i64 y.bay, .int .i64 y.row, .bool y.deck, .int .i64 y.tiers, .int .i64 y.height, .int .i64 y.k20, .int .i64 y.k40, .int .i64 y.lash, .slice p4 y.plugs.length c4, .int .i64 y.x, .int .i64 y.y, .int .i64 y.z] 65 (0, 0)) :: Kl4) rfl rfl (st_row (off := 0) (v := .agg #[.int .i64 y.bay, .int .i64 y.row, .bool y.deck, .int .i64 y.tiers, .int .i64 y.height, .int .i64 y.k20, .int .i64 y.k40, .int .i64 y.lash, .slice p4 y.plugs.length c4, .int .i64 y.x, .int .i64 y.y, .int .i64 y.z]) rfl Tw.kr Tw.kr Tw.m0 Bg2 Tw.kr (by first | (simp [Value.cells]; done) | exact Nat.le_of_ble_eq_true rfl) (by intro v hv; simp [Value.cells] at hv; first | (subst hv; rfl) | (rcases hv with rfl | rfl | rfl | rfl | rfl | rfl | rfl | rfl | rfl | rfl | rfl | rfl <;> rfl)) Tw.kr (List.forall_mem_cons.2 ⟨.inl rfl, (List.forall_mem_cons.2 ⟨.inr ⟨Tw.m1, Tw.nee⟩, (fun p hp => .inr ⟨(.tail _ (.tail _ hp)), ((show Dk g2 Kl4 from Tw.djt) _ hp)⟩)⟩)⟩)) ?_
 refine wpL_done (fun W3 hW3 => ?_)
 change Code.wp ..
 refine wp_ret ?_
 try simp only [inBlock_ret, then_ret]
 refine bodyPost_ret (v := .agg #[.int .i64 y.bay, .int .i64 y.row, .bool y.deck, .int .i64 y.tiers, .int .i64 y.height, .int .i64 y.k20, .int .i64 y.k40, .int .i64 y.lash, .slice p4 y.plugs.length c4, .int .i64 y.x, .int .i64 y.y, .int .i64 y.z]) ?_ rfl ?_
 · exact (res_cell (p := 2) rfl rfl (hW3.2 _ Tw.m0) Tryd.underlying65 rfl Tw.kr)
 · exact ⟨p4, c4, rfl, by omega, O4.out (fun p hp => by simp only [List.mem_cons, List.mem_append, List.nil_append, List.not_mem_nil, or_assoc, or_false, false_or, hp, true_or, or_true]) hW3, hW3.1⟩
end Go.Proofs.YtlinjngifacmoaaDoor
/- Lists of records that were lent. -/
namespace Go.Proofs.YtlinjngifacmoaaDoor
open Go Go.RowKit Tw
def HL {α : Type} (cells : α → List Value) (p : Option Addr) (l : List α) (T : List (Nat × Obj)) : Prop := ∀ W : World, (∀ b ∈ T, W.heap[b.1]? = some b.2) → SLV W p (l.flatMap cells)
theorem HL.rl {α : Type} {cells : α → List Value} {W0 : Base} {p : Option Addr} {l : List α} {T : List (Nat × Obj)} (h : HL cells p l T) : RL cells W0 p l T := fun W hW => h W hW.2
theorem HL.mono {α : Type} {cells : α → List Value} {p : Option Addr} {l : List α} {T T' : List (Nat × Obj)} (h : HL cells p l T) (hs : ∀ b ∈ T, b ∈ T') : HL cells p l T' := fun W hW => h W fun b hb => hW b (hs b hb)
theorem own_hl {α : Type} {cells : α → List Value} {W0 : Base} {E : TypeId} {sz n c : Nat} {p : Option Addr} {l : List α} {T : List (Nat × Obj)} (h : OwnL W0 E sz (.slice p n c) n (l.flatMap cells) T) : HL cells p l T := by
 rcases h with ⟨rfl, h2, he, rfl⟩ | ⟨g, cap, cur, he, hB, hR, rfl⟩
 · exact fun _ _ => .inl h2
 · cases he
   exact fun W hW => have hb := hW _ Tw.m0; .inr ⟨g, 0, rfl, lt_of_block hb, hR.cel hb⟩
theorem own_new {W0 : Base} {E : TypeId} {sz n : Nat} {v : Value} {xs : List Value} {T : List (Nat × Obj)} (h : OwnL W0 E sz v n xs T) : ∀ b ∈ T, W0.B ≤ b.1 := by
 rcases h with ⟨rfl, h2, he, rfl⟩ | ⟨g, cap, cur, he, hB, hR, rfl⟩
 · exact fun _ h => by cases h
 · exact fun b hb => by cases List.mem_singleton.1 hb; exact hB
theorem new_app {B : Nat} {T K : List (Nat × Obj)} (h : ∀ b ∈ T, B ≤ b.1) (h2 : ∀ b ∈ K, B ≤ b.1) : ∀ b ∈ T ++ K, B ≤ b.1 := fun b hb => (List.mem_append.1 hb).elim (h b) (h2 b)
def mkCovL (i : Nat) : List Cov := (List.range i).map mkCov
theorem mkCovL_len (i : Nat) : (mkCovL i).length = i := by simp [mkCovL]
theorem mkCovL_s (i : Nat) : mkCovL (i + 1) = mkCovL i ++ [mkCov i] := by simp [mkCovL, List.range_succ]
theorem mkCovL_at {i n : Nat} (h : i < n) : (mkCovL n)[i]? = some (mkCov i) := by simp [mkCovL, h]
def mkColL (i : Nat) : List Col := (List.range i).map mkCol
theorem mkColL_len (i : Nat) : (mkColL i).length = i := by simp [mkColL]
theorem mkColL_s (i : Nat) : mkColL (i + 1) = mkColL i ++ [mkCol i] := by simp [mkColL, List.range_succ]
theorem mkColL_at {i n : Nat} (h : i < n) : (mkColL n)[i]? = some (mkCol i) := by simp [mkColL, h]
def LentO (l X : List Cov) (T : List (Nat × Obj)) : Prop := ∀ (j : Nat) (x : Cov), X[j]? = some x → ∃ y q d, l[j]? = some y ∧ x = y.re q d ∧ y.rows.length + 12 ≤ d ∧ HL inC q (y.rows ++ mkL 12) T
def LentC (l X : List Col) (T : List (Nat × Obj)) : Prop := ∀ (j : Nat) (x : Col), X[j]? = some x → ∃ y q d, l[j]? = some y ∧ x = y.re q d ∧ y.plugs.length + 12 ≤ d ∧ HL inC q (y.plugs ++ mkL 12) T
theorem LentO.nil (l : List Cov) : LentO l [] [] := fun _ _ h => by cases h
theorem LentC.nil (l : List Col) : LentC l [] [] := fun _ _ h => by cases h
theorem LentO.mono {l X : List Cov} {T T' : List (Nat × Obj)} (h : LentO l X T) (hs : ∀ b ∈ T, b ∈ T') : LentO l X T' := fun j x hx => by
 obtain ⟨y, q, d, h1, h2, h3, h4⟩ := h j x hx
 exact ⟨y, q, d, h1, h2, h3, h4.mono hs⟩
theorem LentC.mono {l X : List Col} {T T' : List (Nat × Obj)} (h : LentC l X T) (hs : ∀ b ∈ T, b ∈ T') : LentC l X T' := fun j x hx => by
 obtain ⟨y, q, d, h1, h2, h3, h4⟩ := h j x hx
 exact ⟨y, q, d, h1, h2, h3, h4.mono hs⟩
theorem LentO.s {l X : List Cov} {T K : List (Nat × Obj)} {i d : Nat} {y : Cov} {q : Option Addr} (h : LentO l X T) (hi : X.length = i) (hy : l[i]? = some y) (hd : y.rows.length + 12 ≤ d) (hH : HL inC q (y.rows ++ mkL 12) K) : LentO l (X ++ [y.re q d]) (T ++ K) := fun j x hx => by
 by_cases e : j < X.length
 · rw [List.getElem?_append_left e] at hx
   exact h.mono (fun b hb => List.mem_append_left _ hb) j x hx
 · rw [List.getElem?_append_right Tw.om] at hx
   have e2 : j - X.length = 0 := by
     have := (List.getElem?_eq_some_iff.1 hx).1
     simp only [List.length_singleton] at this
     omega
   rw [e2] at hx
   cases hx
   have e3 : j = i := by omega
   subst e3
   exact ⟨y, q, d, hy, rfl, hd, hH.mono fun b hb => List.mem_append_right _ hb⟩
theorem LentC.s {l X : List Col} {T K : List (Nat × Obj)} {i d : Nat} {y : Col} {q : Option Addr} (h : LentC l X T) (hi : X.length = i) (hy : l[i]? = some y) (hd : y.plugs.length + 12 ≤ d) (hH : HL inC q (y.plugs ++ mkL 12) K) : LentC l (X ++ [y.re q d]) (T ++ K) := fun j x hx => by
 by_cases e : j < X.length
 · rw [List.getElem?_append_left e] at hx
   exact h.mono (fun b hb => List.mem_append_left _ hb) j x hx
 · rw [List.getElem?_append_right Tw.om] at hx
   have e2 : j - X.length = 0 := by
     have := (List.getElem?_eq_some_iff.1 hx).1
     simp only [List.length_singleton] at this
     omega
   rw [e2] at hx
   cases hx
   have e3 : j = i := by omega
   subst e3
   exact ⟨y, q, d, hy, rfl, hd, hH.mono fun b hb => List.mem_append_right _ hb⟩
def LentFV (W0 : Base) (E : TypeId) (sz : Nat) (F : Option Addr → Nat → Value) (b m : Nat) (xs : List Value) (K : List (Nat × Obj)) (v : Value) (K' : List (Nat × Obj)) : Prop :=
 ∃ p c Kl, v = F p c ∧ b ≤ c ∧ OwnL W0 E sz (.slice p m c) m xs Kl ∧ (∀ p ∈ K, ∀ q ∈ Kl, q.1 ≠ p.1) ∧ K' = K ++ Kl
theorem LentFV.sub {W0 : Base} {E : TypeId} {sz b m : Nat} {F : Option Addr → Nat → Value} {xs : List Value} {K K' : List (Nat × Obj)} {v : Value} (h : LentFV W0 E sz F b m xs K v K') : ∀ p ∈ K, p ∈ K' := by
 obtain ⟨_, _, _, _, _, _, _, rfl⟩ := h
 exact fun p hp => List.mem_append_left _ hp
theorem calls_lentf {P : Program} {W0 : Base} {K : List (Nat × Obj)} {W : World} {E : TypeId} {sz b m : Nat} {F : Option Addr → Nat → Value} {xs : List Value} {f : FuncId} {args : Array Value} (hW : KS W0 K W) (h : Calls P f args W fun e w' => ∃ q d, e = .returned (F q d) ∧ b ≤ d ∧ OutV W w' E sz (.slice q m d) m xs ∧ Below W.heap.size W w') :
   Calls P f args W fun e w' => ∃ v K', e = .returned v ∧ KS W0 K' w' ∧ LentFV W0 E sz F b m xs K v K' :=
 h.mono fun e w' ⟨q, d, he, hm, hO, hb⟩ => by
   obtain ⟨Kl, h1, h2, h3⟩ := hO.own hW hb
   exact ⟨_, _, he, h3, q, d, Kl, rfl, hm, h1, h2, rfl⟩
def LentOA (W : World) (l X : List Cov) : Prop := ∀ (j : Nat) (x : Cov), X[j]? = some x → ∃ y q d, l[j]? = some y ∧ x = y.re q d ∧ y.rows.length + 12 ≤ d ∧ SLV W q ((y.rows ++ mkL 12).flatMap inC)
def LentCA (W : World) (l X : List Col) : Prop := ∀ (j : Nat) (x : Col), X[j]? = some x → ∃ y q d, l[j]? = some y ∧ x = y.re q d ∧ y.plugs.length + 12 ≤ d ∧ SLV W q ((y.plugs ++ mkL 12).flatMap inC)
theorem LentO.at {W : World} {l X : List Cov} {T : List (Nat × Obj)} (h : LentO l X T) (hT : ∀ b ∈ T, W.heap[b.1]? = some b.2) : LentOA W l X := fun j x hx => by
 obtain ⟨y, q, d, h1, h2, h3, h4⟩ := h j x hx
 exact ⟨y, q, d, h1, h2, h3, h4 W hT⟩
theorem LentC.at {W : World} {l X : List Col} {T : List (Nat × Obj)} (h : LentC l X T) (hT : ∀ b ∈ T, W.heap[b.1]? = some b.2) : LentCA W l X := fun j x hx => by
 obtain ⟨y, q, d, h1, h2, h3, h4⟩ := h j x hx
 exact ⟨y, q, d, h1, h2, h3, h4 W hT⟩
theorem lentOA_at {W : World} {l X : List Cov} {i : Nat} {x y : Cov} (h : LentOA W l X) (hx : (X ++ mkCovL 12)[i]? = some x) (hl : X.length = l.length) (hy : l[i]? = some y) : ∃ q d, x = y.re q d ∧ y.rows.length + 12 ≤ d ∧ SLV W q ((y.rows ++ mkL 12).flatMap inC) := by
 have hi := (List.getElem?_eq_some_iff.1 hy).1
 rw [List.getElem?_append_left Tw.om] at hx
 obtain ⟨z, q, d, h1, h2, h3, h4⟩ := h i x hx
 rw [hy] at h1
 cases h1
 exact ⟨q, d, h2, h3, h4⟩
theorem lentCA_at {W : World} {l X : List Col} {i : Nat} {x y : Col} (h : LentCA W l X) (hx : (X ++ mkColL 12)[i]? = some x) (hl : X.length = l.length) (hy : l[i]? = some y) : ∃ q d, x = y.re q d ∧ y.plugs.length + 12 ≤ d ∧ SLV W q ((y.plugs ++ mkL 12).flatMap inC) := by
 have hi := (List.getElem?_eq_some_iff.1 hy).1
 rw [List.getElem?_append_left Tw.om] at hx
 obtain ⟨z, q, d, h1, h2, h3, h4⟩ := h i x hx
 rw [hy] at h1
 cases h1
 exact ⟨q, d, h2, h3, h4⟩
theorem markOA_at {l X : List Cov} {i : Nat} {x : Cov} (hx : (X ++ mkCovL 12)[i]? = some x) (hl : X.length = l.length) (h : ¬ i < l.length) : x = mkCov (i - l.length) := by
 have h2 := (List.getElem?_eq_some_iff.1 hx).1
 rw [List.length_append, mkCovL_len] at h2
 rw [List.getElem?_append_right Tw.om, mkCovL_at Tw.om, hl] at hx
 exact (Option.some.inj hx).symm
theorem markCA_at {l X : List Col} {i : Nat} {x : Col} (hx : (X ++ mkColL 12)[i]? = some x) (hl : X.length = l.length) (h : ¬ i < l.length) : x = mkCol (i - l.length) := by
 have h2 := (List.getElem?_eq_some_iff.1 hx).1
 rw [List.length_append, mkColL_len] at h2
 rw [List.getElem?_append_right Tw.om, mkColL_at Tw.om, hl] at hx
 exact (Option.some.inj hx).symm
theorem lentOA_pre {W : World} {l X : List Cov} {i : Nat} {x y : Cov} (h : LentOA W l X) (hx : X[i]? = some x) (hy : l[i]? = some y) : ∃ q d, x = y.re q d ∧ SLV W q (y.rows.flatMap inC) := by
 obtain ⟨z, q, d, h1, h2, _, h4⟩ := h i x hx
 rw [hy] at h1
 cases h1
 exact ⟨q, d, h2, slv_pre0 h4⟩
theorem lentCA_pre {W : World} {l X : List Col} {i : Nat} {x y : Col} (h : LentCA W l X) (hx : X[i]? = some x) (hy : l[i]? = some y) : ∃ q d, x = y.re q d ∧ SLV W q (y.plugs.flatMap inC) := by
 obtain ⟨z, q, d, h1, h2, _, h4⟩ := h i x hx
 rw [hy] at h1
 cases h1
 exact ⟨q, d, h2, slv_pre0 h4⟩
end Go.Proofs.YtlinjngifacmoaaDoor
namespace Go.Proofs.YtlinjngifacmoaaDoor
open Go Go.RowKit Tw
set_option maxRecDepth 100000 in
set_option maxHeartbeats 4000000 in
theorem LentCovers_any (l : List Cov) (p : Option Addr) (c : Nat) (hl : l.length ≤ 1000000) (lr : ∀ o ∈ l, o.rows.length ≤ 1000000) (w : World) (hp : SLV w p (l.flatMap covC)) (hr : RwR w l) : Calls Tryd.prog 40 #[.slice p l.length c] w fun e w' => ∃ X q d T, e = .returned (.slice q l.length d) ∧ l.length + 12 ≤ d ∧ X.length = l.length ∧ LentO l X T ∧ HL covC q (X ++ mkCovL 12) T ∧ (∀ b ∈ T, w.heap.size ≤ b.1) ∧ KS (w : Base) T w' := by
 have HP := Lib.hid hp
 clear hp
 have HR := Lib.hid hr
 clear hr
 go_enter Tryd.func40, Tryd.ntmps40
 refine wp_seq ?_
 refine wp_region_L [] (KS.start w) ?_
 refine lm (v := .slice none 0 0) rfl rfl ?_
 refine wpL_done (fun W1 hW1 => ?_)
 change Code.wp ..
 refine wp_seq ?_
 refine wp_region_L _ hW1 ?_
 refine lm (v := .slice p l.length c) rfl rfl ?_
 refine lp (v := .int .i64 ((l.length : Nat) : Int)) rfl rfl (run_lenL (p := p) (cap := c) (n := l.length) rfl Tryd.underlying23 Tw.kr) ?_
 refine lp (v := .int .i64 (((l.length + 12) : Nat) : Int)) rfl rfl (run_bin rfl (vx := (.int .i64 ((l.length : Nat) : Int))) (vy := (.int .i64 ((12 : Nat) : Int))) Tw.kr Tw.kr fun w => bn_add (z := (l.length + 12)) rfl (wr_i64 Tw.om) w) ?_
 refine wpL_new (fun g => .slice (some ⟨g, 0, none⟩) 0 (l.length + 12)) (obi := .cells (madeCells (Value.cells (.agg #[.int .i64 0, .slice none 0 0])) ((l.length + 12) * 2)) 67 (0, 0)) rfl rfl (run_mk0 (c := (l.length + 12)) (z := (.agg #[.int .i64 0, .slice none 0 0])) (sz := 2) (b := 32) rfl Tryd.underlying23 Tw.kr (by decide) Tw.kr Tw.kr Tw.om) Tw.pf fun g1 Bg1 Fg1 => ?_
 refine lm (v := .slice (some ⟨g1, 0, none⟩) 0 (l.length + 12)) rfl rfl ?_
 refine wpL_done (fun W2 hW2 => ?_)
 change Code.wp ..
 refine wp_seq ?_
 refine wp_seq ?_
 refine wp_region_L _ hW2 ?_
 refine lm (v := .int .i64 0) rfl rfl ?_
 refine wpL_done (fun W3 hW3 => ?_)
 change Code.wp ..
 refine wp_block ?_
 have Om := (own_made (cells := covC) (c := (l.length + 12)) (E := 67) (z := (.agg #[.int .i64 0, .slice none 0 0])) Bg1 rfl Tw.om)
 go_loopw [4, 3] (fun u4 u3 wr => ∃ (i : Nat) (X : List Cov) (vo : Value) (Ko T : List (Nat × Obj)), (i ≤ l.length) ∧ (X.length = i) ∧ (OwnL w 67 2 vo X.length (X.flatMap covC) Ko) ∧ (LentO l X T) ∧ (∀ b ∈ T, w.heap.size ≤ b.1) ∧ (Dj Ko T) ∧ u4 = .int .i64 ((i : Nat) : Int) ∧ vo = u3 ∧ KS w (Ko ++ T) wr) (fun u4 _ _ => l.length - (intOf u4).toNat)
 case atStart => exact ⟨0, [], .slice (some ⟨g1, 0, none⟩) 0 (l.length + 12), [(g1, .cells (madeCells (Value.cells (.agg #[.int .i64 0, .slice none 0 0])) ((l.length + 12) * 2)) 67 (0, 0))], [], (Nat.zero_le _), rfl, Om, (LentO.nil l), (fun _ h => by cases h), (show Dj [(g1, .cells (madeCells (Value.cells (.agg #[.int .i64 0, .slice none 0 0])) ((l.length + 12) * 2)) 67 (0, 0))] [] from Tw.djt), rfl, rfl, (hW3.sub (fun p hp => by first | exact hp | (simp only [List.mem_cons, List.mem_append, List.nil_append, List.not_mem_nil, or_assoc, or_false, false_or] at hp ⊢ <;> grind)))⟩
 case round =>
   obtain ⟨i, X, vo, Ko, T, hi, hXl, hO, hX, hT, dh2_0, rfl, rfl, hL4⟩ := hrel
   refine wp_seq ?_
   refine wp_seq ?_
   refine wp_region_L _ hL4 ?_
   refine lm (v := .int .i64 ((i : Nat) : Int)) rfl rfl ?_
   refine lm (v := .slice p l.length c) rfl rfl ?_
   refine lp (v := .int .i64 ((l.length : Nat) : Int)) rfl rfl (run_lenL (p := p) (cap := c) (n := l.length) rfl Tryd.underlying23 Tw.kr) ?_
   refine lp (v := .bool (decide (i < l.length))) rfl rfl (run_bin rfl (vx := (.int .i64 ((i : Nat) : Int))) (vy := (.int .i64 ((l.length : Nat) : Int))) Tw.kr Tw.kr fun w => bn_lss rfl w) ?_
   refine wpL_done (fun W5 hW5 => ?_)
   change Code.wp ..
   cases hd1 : (decide (i < l.length)) with
   | false =>
     have h1 : ¬ (i < l.length) := of_decide_eq_false hd1
     clear hd1
     refine wp_cond_false rfl ?_
     refine wp_exit ?_
     change Code.wp ..
     refine wp_seq ?_
     refine wp_seq ?_
     refine wp_region_L _ hW5 ?_
     refine lm (v := .int .i64 0) rfl rfl ?_
     refine wpL_done (fun W6 hW6 => ?_)
     change Code.wp ..
     refine wp_block ?_
     have hXl2 : X.length = l.length := by have := h1; omega
     go_loopw [6, 3] (fun u6 u3 wr => ∃ (j : Nat) (v2 : Value) (K2 : List (Nat × Obj)), (j ≤ 12) ∧ (OwnL w 67 2 v2 (X ++ mkCovL j).length ((X ++ mkCovL j).flatMap covC) K2) ∧ (Dj T K2) ∧ u6 = .int .i64 ((j : Nat) : Int) ∧ v2 = u3 ∧ KS w (T ++ K2) wr) (fun u6 _ _ => 12 - (intOf u6).toNat)
     case atStart => exact ⟨0, vo, Ko, (Nat.zero_le _), (by rw [show X ++ mkCovL 0 = X from by simp [mkCovL]]; exact hO), (show Dj T Ko from Tw.djt), rfl, rfl, (hW6.sub (fun p hp => by first | exact hp | (simp only [List.mem_cons, List.mem_append, List.nil_append, List.not_mem_nil, or_assoc, or_false, false_or] at hp ⊢ <;> grind)))⟩
     case round =>
       obtain ⟨j, v2, K2, hj, hO2, dh3_0, rfl, rfl, hL7⟩ := hrel
       have hlj : (X ++ mkCovL j).length = X.length + j := by rw [List.length_append, mkCovL_len]
       refine wp_seq ?_
       refine wp_seq ?_
       refine wp_region_L _ hL7 ?_
       refine lm (v := .int .i64 ((j : Nat) : Int)) rfl rfl ?_
       refine lp (v := .bool (decide (j < 12))) rfl rfl (run_bin rfl (vx := (.int .i64 ((j : Nat) : Int))) (vy := (.int .i64 ((12 : Nat) : Int))) Tw.kr Tw.kr fun w => bn_lss rfl w) ?_
       refine wpL_done (fun W8 hW8 => ?_)
       change Code.wp ..
       cases hd2 : (decide (j < 12)) with
       | false =>
         have h2 : ¬ (j < 12) := of_decide_eq_false hd2
         clear hd2
         refine wp_cond_false rfl ?_
         refine wp_exit ?_
         change Code.wp ..
         refine wp_seq ?_
         refine wp_region_L _ hW8 ?_
         refine lm (v := v2) rfl rfl ?_
         refine lm (v := .slice p l.length c) rfl rfl ?_
         refine lp (v := .int .i64 ((l.length : Nat) : Int)) rfl rfl (run_lenL (p := p) (cap := c) (n := l.length) rfl Tryd.underlying23 Tw.kr) ?_
         have hj12 : j = 12 := by omega
         subst hj12
         obtain ⟨q9, d9, rfl, hd9, R9⟩ := own_rl hO2
         have hlen : (X ++ mkCovL 12).length = l.length + 12 := by rw [List.length_append, mkCovL_len, hXl2]
         refine lp (v := .slice q9 l.length d9) rfl rfl (run_slt (kd := .i64) (j := l.length) (n := (X ++ mkCovL 12).length) (c := d9) (sz := 2) rfl Tryd.underlying23 Tw.kr Tw.kr Tw.kr Tw.om) ?_
         refine lm (v := .slice q9 l.length d9) rfl rfl ?_
         refine wpL_done (fun W9 hW9 => ?_)
         change Code.wp ..
         refine wp_ret ?_
         try simp only [inBlock_ret, then_ret]
         refine bodyPost_ret (v := .slice q9 l.length d9) ?_ rfl ?_
         · kernel_rfl
         · exact ⟨X, q9, d9, T ++ K2, rfl, by omega, hXl2, hX.mono (fun p hp => by simp only [List.mem_cons, List.mem_append, List.nil_append, List.not_mem_nil, or_assoc, or_false, false_or, hp, true_or, or_true]), (own_hl hO2).mono (fun p hp => by simp only [List.mem_cons, List.mem_append, List.nil_append, List.not_mem_nil, or_assoc, or_false, false_or, hp, true_or, or_true]), new_app hT (own_new hO2), hW9.sub (fun p hp => by simp only [List.mem_cons, List.mem_append, List.nil_append, List.not_mem_nil, or_assoc, or_false, false_or, hp, true_or, or_true])⟩
       | true =>
         have h2 : j < 12 := of_decide_eq_true hd2
         clear hd2
         refine wp_cond_true rfl ?_
         refine wp_skip ?_
         change Code.wp ..
         refine wp_seq ?_
         refine wp_block ?_
         refine wp_region_L _ hW8 ?_
         refine lm (v := v2) rfl rfl ?_
         refine lm (v := .int .i64 ((j : Nat) : Int)) rfl rfl ?_
         refine lv (v := .agg (covC (mkCov j)).toArray) rfl rfl (yb_call (f := 74) (args := #[.int .i64 1, .int .i64 ((j : Nat) : Int)]) Tw.kf fun W hW => markCover_any j Tw.om W) ?_
         refine wpL_new (fun g => .slice (some ⟨g, 0, none⟩) 1 1) (obi := .cells (covC (mkCov j)).toArray 67 (0, 0)) rfl rfl Tw.kf Tw.pf fun g4 Bg4 Fg4 => ?_
         obtain ⟨dj5_0, dj5_1⟩ : Dk g4 T ∧ Dk g4 K2 := Tw.dkf Fg4
         refine wpL_g (AppO w 67 2 T (((X ++ mkCovL j).length) + 1) (((X ++ mkCovL j).flatMap covC) ++ [.int .i64 ((mkCov j).bay), .slice ((mkCov j).rp) (((mkCov j).rows).length) ((mkCov j).rc)])) rfl rfl (app_own el_cov (m := 1) (c := 1) (news := [.int .i64 ((mkCov j).bay), .slice ((mkCov j).rp) (((mkCov j).rows).length) ((mkCov j).rc)]) rfl Tw.kr Tw.kr Tw.m0 hO2 Tw.sc (fun p hp => ⟨by simp only [List.mem_cons, List.mem_append, List.nil_append, List.not_mem_nil, or_assoc, or_false, false_or] at hp ⊢ <;> grind, (show Dj T K2 from Tw.djt) p hp⟩) rfl (by simp [strV, Value.oneCell']) Tw.om Tw.om Tw.om) Tw.pf ?_
         rintro v6 K9 ⟨Kl6, O6, N6, rfl⟩
         obtain dj7_0 : Dj T Kl6 := Tw.djf N6
         refine lm (v := v6) rfl rfl ?_
         refine wpL_done (fun W10 hW10 => ?_)
         change Code.wp ..
         refine wp_region_L _ hW10 ?_
         refine lm (v := .int .i64 ((j : Nat) : Int)) rfl rfl ?_
         refine lp (v := .int .i64 (((j + 1) : Nat) : Int)) rfl rfl (run_bin rfl (vx := (.int .i64 ((j : Nat) : Int))) (vy := (.int .i64 ((1 : Nat) : Int))) Tw.kr Tw.kr fun w => bn_add (z := (j + 1)) rfl (wr_i64 Tw.om) w) ?_
         refine lm (v := .int .i64 (((j + 1) : Nat) : Int)) rfl rfl ?_
         refine wpL_done (fun W11 hW11 => ?_)
         go_roundw
         case rel =>
           repeat apply Exists.intro
           exact ⟨⟨j + 1, v6, Kl6, Tw.om, (own_app O6 (by rw [mkCovL_s, ← List.append_assoc, List.flatMap_append (ys := [mkCov j])]; rfl) (by rw [mkCovL_s, ← List.append_assoc, List.length_append (bs := [mkCov j])]; rfl)), (show Dj T Kl6 from Tw.djt), rfl, rfl, (hW11.sub (fun p hp => by first | exact hp | (simp only [List.mem_cons, List.mem_append, List.nil_append, List.not_mem_nil, or_assoc, or_false, false_or] at hp ⊢ <;> grind)))⟩, rfl⟩
         case measure => (show 12 - (intOf (.int .i64 (((j + 1) : Nat) : Int))).toNat < 12 - (intOf (.int .i64 ((j : Nat) : Int))).toNat); simp only [intOf]; omega
   | true =>
     have h1 : i < l.length := of_decide_eq_true hd1
     clear hd1
     refine wp_cond_true rfl ?_
     refine wp_skip ?_
     change Code.wp ..
     refine wp_seq ?_
     refine wp_block ?_
     refine wp_seq ?_
     refine wp_region_L _ hW5 ?_
     refine lm (v := .slice p l.length c) rfl rfl ?_
     refine lm (v := .int .i64 ((i : Nat) : Int)) rfl rfl ?_
     obtain ⟨y8, g8_, f8_, hy8, hp8, hc8⟩ := RL.at (RL.base HP.out) covC_len (by decide) (hW5.sub (fun _ h => by cases h)) (k := i) Tw.om
     refine lp (v := .pointer (some ⟨g8_, f8_ + i * 2, none⟩)) rfl rfl (run_idxQ (p := p) (cap := c) (n := l.length) (j := .i64) (k := i) (sz := 2) rfl Tryd.underlying23 Tw.kr Tw.kr hp8 Tw.kr Tw.om) ?_
     refine lv (v := .agg (covC y8).toArray) rfl rfl (yb_rs (off := f8_ + i * 2) (cs := covC y8) rfl Tw.kr (fun W hW => hc8 W (hW.sub (fun _ h => by cases h))) Tryd.underlying67 rfl Tw.kr) ?_
     refine wpL_c (f := 73) (args := #[.agg (covC y8).toArray]) (LentFV w 3 1 (fun q d => .agg (covC (y8.re q d)).toArray) (y8.rows.length + 12) (y8.rows ++ mkL 12).length ((y8.rows ++ mkL 12).flatMap inC) (Ko ++ T)) rfl Tw.kr Tw.kf (fun W hW => calls_lentf hW (LentCover_any y8 (lr y8 (List.mem_of_getElem? hy8)) W ((HR.out y8 (List.mem_of_getElem? hy8)).keep hW.1))) Tw.pf ?_
     rintro _ _ ⟨p9, c9, Kl9, rfl, n9, O9, N9, rfl⟩
     obtain ⟨dj10_0, dj10_1⟩ : Dj Ko Kl9 ∧ Dj T Kl9 := Tw.djf N9
     refine wpL_sub (K2 := (Ko ++ (T ++ Kl9))) (fun p hp => by simp only [List.mem_cons, List.mem_append, or_assoc] at hp ⊢; exact hp) ?_
     refine wpL_new (fun g => .pointer (some ⟨g, 0, none⟩)) (obi := .cells #[.int .i64 0, .slice none 0 0] 67 (0, 0)) rfl rfl Tw.kf Tw.pf fun g11 Bg11 Fg11 => ?_
     obtain ⟨dj12_0, dj12_1, dj12_2⟩ : Dk g11 Ko ∧ Dk g11 T ∧ Dk g11 Kl9 := Tw.dkf Fg11
     refine wpL_s ((g11, .cells (covC (y8.re p9 c9)).toArray 67 (0, 0)) :: (Ko ++ (T ++ Kl9))) rfl rfl (st_row (off := 0) (v := .agg (covC (y8.re p9 c9)).toArray) rfl Tw.kr Tw.kr Tw.m0 Bg11 Tw.kr (by first | (simp [Value.cells]; done) | exact Nat.le_of_ble_eq_true rfl) (fun v hv => covC_one (y8.re p9 c9) v hv) Tw.kr (List.forall_mem_cons.2 ⟨.inl rfl, (fun p hp => .inr ⟨(.tail _ hp), ((show Dk g11 (Ko ++ (T ++ Kl9)) from Tw.djt) _ hp)⟩)⟩)) ?_
     refine wpL_done (fun W12 hW12 => ?_)
     change Code.wp ..
     refine wp_region_L _ hW12 ?_
     refine lm (v := vo) rfl rfl ?_
     refine lv (v := .agg (covC (y8.re p9 c9)).toArray) rfl rfl (yb_load (n := 2) (off := 0) rfl Tw.kr Tw.m0 Tryd.underlying67 rfl Tw.kr (by first | (simp [Value.cells]; done) | exact Nat.le_of_ble_eq_true rfl) Tw.kr) ?_
     refine wpL_new (fun g => .slice (some ⟨g, 0, none⟩) 1 1) (obi := .cells (covC (y8.re p9 c9)).toArray 67 (0, 0)) rfl rfl Tw.kf Tw.pf fun g13 Bg13 Fg13 => ?_
     obtain ⟨dj14_0, dj14_1, dj14_2, dj14_3⟩ : g11 ≠ g13 ∧ Dk g13 Ko ∧ Dk g13 T ∧ Dk g13 Kl9 := Tw.dkf Fg13
     refine wpL_g (AppO w 67 2 ((g11, .cells (covC (y8.re p9 c9)).toArray 67 (0, 0)) :: (T ++ Kl9)) (X.length + 1) ((X.flatMap covC) ++ [.int .i64 ((y8.re p9 c9).bay), .slice ((y8.re p9 c9).rp) (((y8.re p9 c9).rows).length) ((y8.re p9 c9).rc)])) rfl rfl (app_own el_cov (m := 1) (c := 1) (news := [.int .i64 ((y8.re p9 c9).bay), .slice ((y8.re p9 c9).rp) (((y8.re p9 c9).rows).length) ((y8.re p9 c9).rc)]) rfl Tw.kr Tw.kr Tw.m0 hO Tw.sc (fun p hp => ⟨by simp only [List.mem_cons, List.mem_append, List.nil_append, List.not_mem_nil, or_assoc, or_false, false_or] at hp ⊢ <;> grind, (show Dj ((g11, .cells (covC (y8.re p9 c9)).toArray 67 (0, 0)) :: (T ++ Kl9)) Ko from Tw.djt) p hp⟩) rfl (by simp [strV, Value.oneCell']) Tw.om Tw.om Tw.om) Tw.pf ?_
     rintro v15 K9 ⟨Kl15, O15, N15, rfl⟩
     obtain ⟨dj16_0, dj16_1, dj16_2⟩ : Dk g11 Kl15 ∧ Dj T Kl15 ∧ Dj Kl9 Kl15 := Tw.djf N15
     refine lm (v := v15) rfl rfl ?_
     refine wpL_done (fun W13 hW13 => ?_)
     change Code.wp ..
     refine wp_region_L _ hW13 ?_
     refine lm (v := .int .i64 ((i : Nat) : Int)) rfl rfl ?_
     refine lp (v := .int .i64 (((i + 1) : Nat) : Int)) rfl rfl (run_bin rfl (vx := (.int .i64 ((i : Nat) : Int))) (vy := (.int .i64 ((1 : Nat) : Int))) Tw.kr Tw.kr fun w => bn_add (z := (i + 1)) rfl (wr_i64 Tw.om) w) ?_
     refine lm (v := .int .i64 (((i + 1) : Nat) : Int)) rfl rfl ?_
     refine wpL_done (fun W14 hW14 => ?_)
     go_roundw
     case rel =>
       repeat apply Exists.intro
       exact ⟨⟨i + 1, (X ++ [y8.re p9 c9]), v15, Kl15, (T ++ Kl9), Tw.om, (by rw [List.length_append, List.length_singleton]; omega), (own_app O15 (by rw [List.flatMap_append]; rfl) (by rw [List.length_append]; rfl)), (LentO.s hX hXl hy8 n9 (own_hl O9)), (new_app hT (own_new O9)), (show Dj Kl15 (T ++ Kl9) from Tw.djt), rfl, rfl, (hW14.sub (fun p hp => by first | exact hp | (simp only [List.mem_cons, List.mem_append, List.nil_append, List.not_mem_nil, or_assoc, or_false, false_or] at hp ⊢ <;> grind)))⟩, rfl⟩
     case measure => (show l.length - (intOf (.int .i64 (((i + 1) : Nat) : Int))).toNat < l.length - (intOf (.int .i64 ((i : Nat) : Int))).toNat); simp only [intOf]; omega
set_option maxRecDepth 100000 in
set_option maxHeartbeats 4000000 in
theorem LentColumns_any (l : List Col) (p : Option Addr) (c : Nat) (hl : l.length ≤ 1000000) (lr : ∀ o ∈ l, o.plugs.length ≤ 1000000) (w : World) (hp : SLV w p (l.flatMap colC)) (hr : PlR w l) : Calls Tryd.prog 39 #[.slice p l.length c] w fun e w' => ∃ X q d T, e = .returned (.slice q l.length d) ∧ l.length + 12 ≤ d ∧ X.length = l.length ∧ LentC l X T ∧ HL colC q (X ++ mkColL 12) T ∧ (∀ b ∈ T, w.heap.size ≤ b.1) ∧ KS (w : Base) T w' := by
 have HP := Lib.hid hp
 clear hp
 have HR := Lib.hid hr
 clear hr
 go_enter Tryd.func39, Tryd.ntmps39
 refine wp_seq ?_
 refine wp_region_L [] (KS.start w) ?_
 refine lm (v := .slice none 0 0) rfl rfl ?_
 refine wpL_done (fun W1 hW1 => ?_)
 change Code.wp ..
 refine wp_seq ?_
 refine wp_region_L _ hW1 ?_
 refine lm (v := .slice p l.length c) rfl rfl ?_
 refine lp (v := .int .i64 ((l.length : Nat) : Int)) rfl rfl (run_lenL (p := p) (cap := c) (n := l.length) rfl Tryd.underlying22 Tw.kr) ?_
 refine lp (v := .int .i64 (((l.length + 12) : Nat) : Int)) rfl rfl (run_bin rfl (vx := (.int .i64 ((l.length : Nat) : Int))) (vy := (.int .i64 ((12 : Nat) : Int))) Tw.kr Tw.kr fun w => bn_add (z := (l.length + 12)) rfl (wr_i64 Tw.om) w) ?_
 refine wpL_new (fun g => .slice (some ⟨g, 0, none⟩) 0 (l.length + 12)) (obi := .cells (madeCells (Value.cells (.agg #[.int .i64 0, .int .i64 0, .bool false, .int .i64 0, .int .i64 0, .int .i64 0, .int .i64 0, .int .i64 0, .slice none 0 0, .int .i64 0, .int .i64 0, .int .i64 0])) ((l.length + 12) * 12)) 65 (0, 0)) rfl rfl (run_mk0 (c := (l.length + 12)) (z := (.agg #[.int .i64 0, .int .i64 0, .bool false, .int .i64 0, .int .i64 0, .int .i64 0, .int .i64 0, .int .i64 0, .slice none 0 0, .int .i64 0, .int .i64 0, .int .i64 0])) (sz := 12) (b := 112) rfl Tryd.underlying22 Tw.kr (by decide) Tw.kr Tw.kr Tw.om) Tw.pf fun g1 Bg1 Fg1 => ?_
 refine lm (v := .slice (some ⟨g1, 0, none⟩) 0 (l.length + 12)) rfl rfl ?_
 refine wpL_done (fun W2 hW2 => ?_)
 change Code.wp ..
 refine wp_seq ?_
 refine wp_seq ?_
 refine wp_region_L _ hW2 ?_
 refine lm (v := .int .i64 0) rfl rfl ?_
 refine wpL_done (fun W3 hW3 => ?_)
 change Code.wp ..
 refine wp_block ?_
 have Om := (own_made (cells := colC) (c := (l.length + 12)) (E := 65) (z := (.agg #[.int .i64 0, .int .i64 0, .bool false, .int .i64 0, .int .i64 0, .int .i64 0, .int .i64 0, .int .i64 0, .slice none 0 0, .int .i64 0, .int .i64 0, .int .i64 0])) Bg1 rfl Tw.om)
 go_loopw [4, 3] (fun u4 u3 wr => ∃ (i : Nat) (X : List Col) (vo : Value) (Ko T : List (Nat × Obj)), (i ≤ l.length) ∧ (X.length = i) ∧ (OwnL w 65 12 vo X.length (X.flatMap colC) Ko) ∧ (LentC l X T) ∧ (∀ b ∈ T, w.heap.size ≤ b.1) ∧ (Dj Ko T) ∧ u4 = .int .i64 ((i : Nat) : Int) ∧ vo = u3 ∧ KS w (Ko ++ T) wr) (fun u4 _ _ => l.length - (intOf u4).toNat)
 case atStart => exact ⟨0, [], .slice (some ⟨g1, 0, none⟩) 0 (l.length + 12), [(g1, .cells (madeCells (Value.cells (.agg #[.int .i64 0, .int .i64 0, .bool false, .int .i64 0, .int .i64 0, .int .i64 0, .int .i64 0, .int .i64 0, .slice none 0 0, .int .i64 0, .int .i64 0, .int .i64 0])) ((l.length + 12) * 12)) 65 (0, 0))], [], (Nat.zero_le _), rfl, Om, (LentC.nil l), (fun _ h => by cases h), (show Dj [(g1, .cells (madeCells (Value.cells (.agg #[.int .i64 0, .int .i64 0, .bool false, .int .i64 0, .int .i64 0, .int .i64 0, .int .i64 0, .int .i64 0, .slice none 0 0, .int .i64 0, .int .i64 0, .int .i64 0])) ((l.length + 12) * 12)) 65 (0, 0))] [] from Tw.djt), rfl, rfl, (hW3.sub (fun p hp => by first | exact hp | (simp only [List.mem_cons, List.mem_append, List.nil_append, List.not_mem_nil, or_assoc, or_false, false_or] at hp ⊢ <;> grind)))⟩
 case round =>
   obtain ⟨i, X, vo, Ko, T, hi, hXl, hO, hX, hT, dh2_0, rfl, rfl, hL4⟩ := hrel
   refine wp_seq ?_
   refine wp_seq ?_
   refine wp_region_L _ hL4 ?_
   refine lm (v := .int .i64 ((i : Nat) : Int)) rfl rfl ?_
   refine lm (v := .slice p l.length c) rfl rfl ?_
   refine lp (v := .int .i64 ((l.length : Nat) : Int)) rfl rfl (run_lenL (p := p) (cap := c) (n := l.length) rfl Tryd.underlying22 Tw.kr) ?_
   refine lp (v := .bool (decide (i < l.length))) rfl rfl (run_bin rfl (vx := (.int .i64 ((i : Nat) : Int))) (vy := (.int .i64 ((l.length : Nat) : Int))) Tw.kr Tw.kr fun w => bn_lss rfl w) ?_
   refine wpL_done (fun W5 hW5 => ?_)
   change Code.wp ..
   cases hd1 : (decide (i < l.length)) with
   | false =>
     have h1 : ¬ (i < l.length) := of_decide_eq_false hd1
     clear hd1
     refine wp_cond_false rfl ?_
     refine wp_exit ?_
     change Code.wp ..
     refine wp_seq ?_
     refine wp_seq ?_
     refine wp_region_L _ hW5 ?_
     refine lm (v := .int .i64 0) rfl rfl ?_
     refine wpL_done (fun W6 hW6 => ?_)
     change Code.wp ..
     refine wp_block ?_
     have hXl2 : X.length = l.length := by have := h1; omega
     go_loopw [6, 3] (fun u6 u3 wr => ∃ (j : Nat) (v2 : Value) (K2 : List (Nat × Obj)), (j ≤ 12) ∧ (OwnL w 65 12 v2 (X ++ mkColL j).length ((X ++ mkColL j).flatMap colC) K2) ∧ (Dj T K2) ∧ u6 = .int .i64 ((j : Nat) : Int) ∧ v2 = u3 ∧ KS w (T ++ K2) wr) (fun u6 _ _ => 12 - (intOf u6).toNat)
     case atStart => exact ⟨0, vo, Ko, (Nat.zero_le _), (by rw [show X ++ mkColL 0 = X from by simp [mkColL]]; exact hO), (show Dj T Ko from Tw.djt), rfl, rfl, (hW6.sub (fun p hp => by first | exact hp | (simp only [List.mem_cons, List.mem_append, List.nil_append, List.not_mem_nil, or_assoc, or_false, false_or] at hp ⊢ <;> grind)))⟩
     case round =>
       obtain ⟨j, v2, K2, hj, hO2, dh3_0, rfl, rfl, hL7⟩ := hrel
       have hlj : (X ++ mkColL j).length = X.length + j := by rw [List.length_append, mkColL_len]
       refine wp_seq ?_
       refine wp_seq ?_
       refine wp_region_L _ hL7 ?_
       refine lm (v := .int .i64 ((j : Nat) : Int)) rfl rfl ?_
       refine lp (v := .bool (decide (j < 12))) rfl rfl (run_bin rfl (vx := (.int .i64 ((j : Nat) : Int))) (vy := (.int .i64 ((12 : Nat) : Int))) Tw.kr Tw.kr fun w => bn_lss rfl w) ?_
       refine wpL_done (fun W8 hW8 => ?_)
       change Code.wp ..
       cases hd2 : (decide (j < 12)) with
       | false =>
         have h2 : ¬ (j < 12) := of_decide_eq_false hd2
         clear hd2
         refine wp_cond_false rfl ?_
         refine wp_exit ?_
         change Code.wp ..
         refine wp_seq ?_
         refine wp_region_L _ hW8 ?_
         refine lm (v := v2) rfl rfl ?_
         refine lm (v := .slice p l.length c) rfl rfl ?_
         refine lp (v := .int .i64 ((l.length : Nat) : Int)) rfl rfl (run_lenL (p := p) (cap := c) (n := l.length) rfl Tryd.underlying22 Tw.kr) ?_
         have hj12 : j = 12 := by omega
         subst hj12
         obtain ⟨q9, d9, rfl, hd9, R9⟩ := own_rl hO2
         have hlen : (X ++ mkColL 12).length = l.length + 12 := by rw [List.length_append, mkColL_len, hXl2]
         refine lp (v := .slice q9 l.length d9) rfl rfl (run_slt (kd := .i64) (j := l.length) (n := (X ++ mkColL 12).length) (c := d9) (sz := 12) rfl Tryd.underlying22 Tw.kr Tw.kr Tw.kr Tw.om) ?_
         refine lm (v := .slice q9 l.length d9) rfl rfl ?_
         refine wpL_done (fun W9 hW9 => ?_)
         change Code.wp ..
         refine wp_ret ?_
         try simp only [inBlock_ret, then_ret]
         refine bodyPost_ret (v := .slice q9 l.length d9) ?_ rfl ?_
         · kernel_rfl
         · exact ⟨X, q9, d9, T ++ K2, rfl, by omega, hXl2, hX.mono (fun p hp => by simp only [List.mem_cons, List.mem_append, List.nil_append, List.not_mem_nil, or_assoc, or_false, false_or, hp, true_or, or_true]), (own_hl hO2).mono (fun p hp => by simp only [List.mem_cons, List.mem_append, List.nil_append, List.not_mem_nil, or_assoc, or_false, false_or, hp, true_or, or_true]), new_app hT (own_new hO2), hW9.sub (fun p hp => by simp only [List.mem_cons, List.mem_append, List.nil_append, List.not_mem_nil, or_assoc, or_false, false_or, hp, true_or, or_true])⟩
       | true =>
         have h2 : j < 12 := of_decide_eq_true hd2
         clear hd2
         refine wp_cond_true rfl ?_
         refine wp_skip ?_
         change Code.wp ..
         refine wp_seq ?_
         refine wp_block ?_
         refine wp_region_L _ hW8 ?_
         refine lm (v := v2) rfl rfl ?_
         refine lm (v := .int .i64 ((j : Nat) : Int)) rfl rfl ?_
         refine lv (v := .agg (colC (mkCol j)).toArray) rfl rfl (yb_call (f := 72) (args := #[.int .i64 1, .int .i64 ((j : Nat) : Int)]) Tw.kf fun W hW => markColumn_any j Tw.om W) ?_
         refine wpL_new (fun g => .slice (some ⟨g, 0, none⟩) 1 1) (obi := .cells (colC (mkCol j)).toArray 65 (0, 0)) rfl rfl Tw.kf Tw.pf fun g4 Bg4 Fg4 => ?_
         obtain ⟨dj5_0, dj5_1⟩ : Dk g4 T ∧ Dk g4 K2 := Tw.dkf Fg4
         refine wpL_g (AppO w 65 12 T (((X ++ mkColL j).length) + 1) (((X ++ mkColL j).flatMap colC) ++ [.int .i64 ((mkCol j).bay), .int .i64 ((mkCol j).row), .bool (mkCol j).deck, .int .i64 ((mkCol j).tiers), .int .i64 ((mkCol j).height), .int .i64 ((mkCol j).k20), .int .i64 ((mkCol j).k40), .int .i64 ((mkCol j).lash), .slice ((mkCol j).pp) (((mkCol j).plugs).length) ((mkCol j).pc), .int .i64 ((mkCol j).x), .int .i64 ((mkCol j).y), .int .i64 ((mkCol j).z)])) rfl rfl (app_own el_col (m := 1) (c := 1) (news := [.int .i64 ((mkCol j).bay), .int .i64 ((mkCol j).row), .bool (mkCol j).deck, .int .i64 ((mkCol j).tiers), .int .i64 ((mkCol j).height), .int .i64 ((mkCol j).k20), .int .i64 ((mkCol j).k40), .int .i64 ((mkCol j).lash), .slice ((mkCol j).pp) (((mkCol j).plugs).length) ((mkCol j).pc), .int .i64 ((mkCol j).x), .int .i64 ((mkCol j).y), .int .i64 ((mkCol j).z)]) rfl Tw.kr Tw.kr Tw.m0 hO2 Tw.sc (fun p hp => ⟨by simp only [List.mem_cons, List.mem_append, List.nil_append, List.not_mem_nil, or_assoc, or_false, false_or] at hp ⊢ <;> grind, (show Dj T K2 from Tw.djt) p hp⟩) rfl (by simp [strV, Value.oneCell']) Tw.om Tw.om Tw.om) Tw.pf ?_
         rintro v6 K9 ⟨Kl6, O6, N6, rfl⟩
         obtain dj7_0 : Dj T Kl6 := Tw.djf N6
         refine lm (v := v6) rfl rfl ?_
         refine wpL_done (fun W10 hW10 => ?_)
         change Code.wp ..
         refine wp_region_L _ hW10 ?_
         refine lm (v := .int .i64 ((j : Nat) : Int)) rfl rfl ?_
         refine lp (v := .int .i64 (((j + 1) : Nat) : Int)) rfl rfl (run_bin rfl (vx := (.int .i64 ((j : Nat) : Int))) (vy := (.int .i64 ((1 : Nat) : Int))) Tw.kr Tw.kr fun w => bn_add (z := (j + 1)) rfl (wr_i64 Tw.om) w) ?_
         refine lm (v := .int .i64 (((j + 1) : Nat) : Int)) rfl rfl ?_
         refine wpL_done (fun W11 hW11 => ?_)
         go_roundw
         case rel =>
           repeat apply Exists.intro
           exact ⟨⟨j + 1, v6, Kl6, Tw.om, (own_app O6 (by rw [mkColL_s, ← List.append_assoc, List.flatMap_append (ys := [mkCol j])]; rfl) (by rw [mkColL_s, ← List.append_assoc, List.length_append (bs := [mkCol j])]; rfl)), (show Dj T Kl6 from Tw.djt), rfl, rfl, (hW11.sub (fun p hp => by first | exact hp | (simp only [List.mem_cons, List.mem_append, List.nil_append, List.not_mem_nil, or_assoc, or_false, false_or] at hp ⊢ <;> grind)))⟩, rfl⟩
         case measure => (show 12 - (intOf (.int .i64 (((j + 1) : Nat) : Int))).toNat < 12 - (intOf (.int .i64 ((j : Nat) : Int))).toNat); simp only [intOf]; omega
   | true =>
     have h1 : i < l.length := of_decide_eq_true hd1
     clear hd1
     refine wp_cond_true rfl ?_
     refine wp_skip ?_
     change Code.wp ..
     refine wp_seq ?_
     refine wp_block ?_
     refine wp_seq ?_
     refine wp_region_L _ hW5 ?_
     refine lm (v := .slice p l.length c) rfl rfl ?_
     refine lm (v := .int .i64 ((i : Nat) : Int)) rfl rfl ?_
     obtain ⟨y8, g8_, f8_, hy8, hp8, hc8⟩ := RL.at (RL.base HP.out) colC_len (by decide) (hW5.sub (fun _ h => by cases h)) (k := i) Tw.om
     refine lp (v := .pointer (some ⟨g8_, f8_ + i * 12, none⟩)) rfl rfl (run_idxQ (p := p) (cap := c) (n := l.length) (j := .i64) (k := i) (sz := 12) rfl Tryd.underlying22 Tw.kr Tw.kr hp8 Tw.kr Tw.om) ?_
     refine lv (v := .agg (colC y8).toArray) rfl rfl (yb_rs (off := f8_ + i * 12) (cs := colC y8) rfl Tw.kr (fun W hW => hc8 W (hW.sub (fun _ h => by cases h))) Tryd.underlying65 rfl Tw.kr) ?_
     refine wpL_c (f := 71) (args := #[.agg (colC y8).toArray]) (LentFV w 3 1 (fun q d => .agg (colC (y8.re q d)).toArray) (y8.plugs.length + 12) (y8.plugs ++ mkL 12).length ((y8.plugs ++ mkL 12).flatMap inC) (Ko ++ T)) rfl Tw.kr Tw.kf (fun W hW => calls_lentf hW (LentColumn_any y8 (lr y8 (List.mem_of_getElem? hy8)) W ((HR.out y8 (List.mem_of_getElem? hy8)).keep hW.1))) Tw.pf ?_
     rintro _ _ ⟨p9, c9, Kl9, rfl, n9, O9, N9, rfl⟩
     obtain ⟨dj10_0, dj10_1⟩ : Dj Ko Kl9 ∧ Dj T Kl9 := Tw.djf N9
     refine wpL_sub (K2 := (Ko ++ (T ++ Kl9))) (fun p hp => by simp only [List.mem_cons, List.mem_append, or_assoc] at hp ⊢; exact hp) ?_
     refine wpL_new (fun g => .pointer (some ⟨g, 0, none⟩)) (obi := .cells #[.int .i64 0, .int .i64 0, .bool false, .int .i64 0, .int .i64 0, .int .i64 0, .int .i64 0, .int .i64 0, .slice none 0 0, .int .i64 0, .int .i64 0, .int .i64 0] 65 (0, 0)) rfl rfl Tw.kf Tw.pf fun g11 Bg11 Fg11 => ?_
     obtain ⟨dj12_0, dj12_1, dj12_2⟩ : Dk g11 Ko ∧ Dk g11 T ∧ Dk g11 Kl9 := Tw.dkf Fg11
     refine wpL_s ((g11, .cells (colC (y8.re p9 c9)).toArray 65 (0, 0)) :: (Ko ++ (T ++ Kl9))) rfl rfl (st_row (off := 0) (v := .agg (colC (y8.re p9 c9)).toArray) rfl Tw.kr Tw.kr Tw.m0 Bg11 Tw.kr (by first | (simp [Value.cells]; done) | exact Nat.le_of_ble_eq_true rfl) (fun v hv => colC_one (y8.re p9 c9) v hv) Tw.kr (List.forall_mem_cons.2 ⟨.inl rfl, (fun p hp => .inr ⟨(.tail _ hp), ((show Dk g11 (Ko ++ (T ++ Kl9)) from Tw.djt) _ hp)⟩)⟩)) ?_
     refine wpL_done (fun W12 hW12 => ?_)
     change Code.wp ..
     refine wp_region_L _ hW12 ?_
     refine lm (v := vo) rfl rfl ?_
     refine lv (v := .agg (colC (y8.re p9 c9)).toArray) rfl rfl (yb_load (n := 12) (off := 0) rfl Tw.kr Tw.m0 Tryd.underlying65 rfl Tw.kr (by first | (simp [Value.cells]; done) | exact Nat.le_of_ble_eq_true rfl) Tw.kr) ?_
     refine wpL_new (fun g => .slice (some ⟨g, 0, none⟩) 1 1) (obi := .cells (colC (y8.re p9 c9)).toArray 65 (0, 0)) rfl rfl Tw.kf Tw.pf fun g13 Bg13 Fg13 => ?_
     obtain ⟨dj14_0, dj14_1, dj14_2, dj14_3⟩ : g11 ≠ g13 ∧ Dk g13 Ko ∧ Dk g13 T ∧ Dk g13 Kl9 := Tw.dkf Fg13
     refine wpL_g (AppO w 65 12 ((g11, .cells (colC (y8.re p9 c9)).toArray 65 (0, 0)) :: (T ++ Kl9)) (X.length + 1) ((X.flatMap colC) ++ [.int .i64 ((y8.re p9 c9).bay), .int .i64 ((y8.re p9 c9).row), .bool (y8.re p9 c9).deck, .int .i64 ((y8.re p9 c9).tiers), .int .i64 ((y8.re p9 c9).height), .int .i64 ((y8.re p9 c9).k20), .int .i64 ((y8.re p9 c9).k40), .int .i64 ((y8.re p9 c9).lash), .slice ((y8.re p9 c9).pp) (((y8.re p9 c9).plugs).length) ((y8.re p9 c9).pc), .int .i64 ((y8.re p9 c9).x), .int .i64 ((y8.re p9 c9).y), .int .i64 ((y8.re p9 c9).z)])) rfl rfl (app_own el_col (m := 1) (c := 1) (news := [.int .i64 ((y8.re p9 c9).bay), .int .i64 ((y8.re p9 c9).row), .bool (y8.re p9 c9).deck, .int .i64 ((y8.re p9 c9).tiers), .int .i64 ((y8.re p9 c9).height), .int .i64 ((y8.re p9 c9).k20), .int .i64 ((y8.re p9 c9).k40), .int .i64 ((y8.re p9 c9).lash), .slice ((y8.re p9 c9).pp) (((y8.re p9 c9).plugs).length) ((y8.re p9 c9).pc), .int .i64 ((y8.re p9 c9).x), .int .i64 ((y8.re p9 c9).y), .int .i64 ((y8.re p9 c9).z)]) rfl Tw.kr Tw.kr Tw.m0 hO Tw.sc (fun p hp => ⟨by simp only [List.mem_cons, List.mem_append, List.nil_append, List.not_mem_nil, or_assoc, or_false, false_or] at hp ⊢ <;> grind, (show Dj ((g11, .cells (colC (y8.re p9 c9)).toArray 65 (0, 0)) :: (T ++ Kl9)) Ko from Tw.djt) p hp⟩) rfl (by simp [strV, Value.oneCell']) Tw.om Tw.om Tw.om) Tw.pf ?_
     rintro v15 K9 ⟨Kl15, O15, N15, rfl⟩
     obtain ⟨dj16_0, dj16_1, dj16_2⟩ : Dk g11 Kl15 ∧ Dj T Kl15 ∧ Dj Kl9 Kl15 := Tw.djf N15
     refine lm (v := v15) rfl rfl ?_
     refine wpL_done (fun W13 hW13 => ?_)
     change Code.wp ..
     refine wp_region_L _ hW13 ?_
     refine lm (v := .int .i64 ((i : Nat) : Int)) rfl rfl ?_
     refine lp (v := .int .i64 (((i + 1) : Nat) : Int)) rfl rfl (run_bin rfl (vx := (.int .i64 ((i : Nat) : Int))) (vy := (.int .i64 ((1 : Nat) : Int))) Tw.kr Tw.kr fun w => bn_add (z := (i + 1)) rfl (wr_i64 Tw.om) w) ?_
     refine lm (v := .int .i64 (((i + 1) : Nat) : Int)) rfl rfl ?_
     refine wpL_done (fun W14 hW14 => ?_)
     go_roundw
     case rel =>
       repeat apply Exists.intro
       exact ⟨⟨i + 1, (X ++ [y8.re p9 c9]), v15, Kl15, (T ++ Kl9), Tw.om, (by rw [List.length_append, List.length_singleton]; omega), (own_app O15 (by rw [List.flatMap_append]; rfl) (by rw [List.length_append]; rfl)), (LentC.s hX hXl hy8 n9 (own_hl O9)), (new_app hT (own_new O9)), (show Dj Kl15 (T ++ Kl9) from Tw.djt), rfl, rfl, (hW14.sub (fun p hp => by first | exact hp | (simp only [List.mem_cons, List.mem_append, List.nil_append, List.not_mem_nil, or_assoc, or_false, false_or] at hp ⊢ <;> grind)))⟩, rfl⟩
     case measure => (show l.length - (intOf (.int .i64 (((i + 1) : Nat) : Int))).toNat < l.length - (intOf (.int .i64 ((i : Nat) : Int))).toNat); simp only [intOf]; omega
end Go.Proofs.YtlinjngifacmoaaDoor
namespace Go.Proofs.YtlinjngifacmoaaDoor
open Go Go.RowKit Tw
theorem sw_SameCover (y : Cov) (q : Option Addr) (d : Nat) (hl : y.rows.length ≤ 4000000000) (w : World) (hp : SLV w y.rp (y.rows.flatMap inC)) (hq : SLV w q (y.rows.flatMap inC)) : Calls Tryd.prog 93 #[.agg (covC (y.re q d)).toArray, .agg (covC y).toArray] w fun e w' => e = .returned (.bool true) ∧ Below w.heap.size w w' := SameCover_any (y.re q d) y.rp y.rc hl w hq hp
theorem sw_SameColumn (y : Col) (q : Option Addr) (d : Nat) (hl : y.plugs.length ≤ 4000000000) (w : World) (hp : SLV w y.pp (y.plugs.flatMap inC)) (hq : SLV w q (y.plugs.flatMap inC)) : Calls Tryd.prog 91 #[.agg (colC (y.re q d)).toArray, .agg (colC y).toArray] w fun e w' => e = .returned (.bool true) ∧ Below w.heap.size w w' := SameColumn_any (y.re q d) y.pp y.pc hl w hq hp
set_option maxRecDepth 100000 in
set_option maxHeartbeats 4000000 in
theorem SameCovers_any (l X : List Cov) (p q : Option Addr) (c d : Nat) (hl : l.length ≤ 1000000) (lr : ∀ o ∈ l, o.rows.length ≤ 1000000) (hX : X.length = l.length) (w : World) (hp : SLV w p (X.flatMap covC)) (ha : LentOA w l X) (hq : SLV w q (l.flatMap covC)) (hr : RwR w l) : Calls Tryd.prog 86 #[.slice p X.length c, .slice q l.length d] w fun e w' => e = .returned (.bool true) ∧ Below w.heap.size w w' := by
 have HP := Lib.hid hp
 clear hp
 have HQ := Lib.hid hq
 clear hq
 have HA := Lib.hid ha
 clear ha
 have HR := Lib.hid hr
 clear hr
 go_enter Tryd.func86, Tryd.ntmps86
 refine wp_seq ?_
 refine wp_region_L [] (KS.start w) ?_
 refine lm (v := .bool false) rfl rfl ?_
 refine wpL_done (fun W1 hW1 => ?_)
 change Code.wp ..
 refine wp_seq ?_
 refine wp_seq ?_
 refine wp_region_L _ hW1 ?_
 refine lm (v := .slice p X.length c) rfl rfl ?_
 refine lp (v := .int .i64 ((X.length : Nat) : Int)) rfl rfl (run_lenL (p := p) (cap := c) (n := X.length) rfl Tryd.underlying23 Tw.kr) ?_
 refine lm (v := .slice q l.length d) rfl rfl ?_
 refine lp (v := .int .i64 ((l.length : Nat) : Int)) rfl rfl (run_lenL (p := q) (cap := d) (n := l.length) rfl Tryd.underlying23 Tw.kr) ?_
 refine lp (v := .bool (!(decide (X.length = l.length)))) rfl rfl (run_bin rfl (vx := (.int .i64 ((X.length : Nat) : Int))) (vy := (.int .i64 ((l.length : Nat) : Int))) Tw.kr Tw.kr fun w => bn_neq rfl w) ?_
 refine wpL_done (fun W2 hW2 => ?_)
 change Code.wp ..
 cases hd1 : (decide (X.length = l.length)) with
 | false =>
   have h1 : ¬ (X.length = l.length) := of_decide_eq_false hd1
   clear hd1
   exact absurd hX h1
 | true =>
   have h1 : X.length = l.length := of_decide_eq_true hd1
   clear hd1
   refine wp_cond_false rfl ?_
   refine wp_skip ?_
   change Code.wp ..
   refine wp_seq ?_
   refine wp_seq ?_
   refine wp_region_L _ hW2 ?_
   refine lm (v := .int .i64 0) rfl rfl ?_
   refine wpL_done (fun W3 hW3 => ?_)
   change Code.wp ..
   refine wp_block ?_
   go_loopw [5] (fun u5 wr => ∃ (i : Nat), (i ≤ l.length) ∧ u5 = .int .i64 ((i : Nat) : Int) ∧ KS w [] wr) (fun u5 _ => l.length - (intOf u5).toNat)
   case atStart => exact ⟨0, (Nat.zero_le _), rfl, (hW3.sub (fun p hp => by first | exact hp | (simp only [List.mem_cons, List.mem_append, List.nil_append, List.not_mem_nil, or_assoc, or_false, false_or] at hp ⊢ <;> grind)))⟩
   case round =>
     obtain ⟨i, hi, rfl, hL4⟩ := hrel
     refine wp_seq ?_
     refine wp_seq ?_
     refine wp_region_L _ hL4 ?_
     refine lm (v := .int .i64 ((i : Nat) : Int)) rfl rfl ?_
     refine lm (v := .slice p X.length c) rfl rfl ?_
     refine lp (v := .int .i64 ((X.length : Nat) : Int)) rfl rfl (run_lenL (p := p) (cap := c) (n := X.length) rfl Tryd.underlying23 Tw.kr) ?_
     refine lp (v := .bool (decide (i < X.length))) rfl rfl (run_bin rfl (vx := (.int .i64 ((i : Nat) : Int))) (vy := (.int .i64 ((X.length : Nat) : Int))) Tw.kr Tw.kr fun w => bn_lss rfl w) ?_
     refine wpL_done (fun W5 hW5 => ?_)
     change Code.wp ..
     cases hd2 : (decide (i < X.length)) with
     | false =>
       have h2 : ¬ (i < X.length) := of_decide_eq_false hd2
       clear hd2
       refine wp_cond_false rfl ?_
       refine wp_exit ?_
       change Code.wp ..
       refine wp_seq ?_
       refine wp_region_L _ hW5 ?_
       refine lm (v := .bool true) rfl rfl ?_
       refine wpL_done (fun W6 hW6 => ?_)
       change Code.wp ..
       refine wp_ret ?_
       try simp only [inBlock_ret, then_ret]
       refine bodyPost_ret (v := .bool true) ?_ rfl ?_
       · kernel_rfl
       · exact ⟨rfl, hW6.1⟩
     | true =>
       have h2 : i < X.length := of_decide_eq_true hd2
       clear hd2
       refine wp_cond_true rfl ?_
       refine wp_skip ?_
       change Code.wp ..
       refine wp_seq ?_
       refine wp_block ?_
       refine wp_seq ?_
       refine wp_region_V _ Tw.kr hW5 ?_
       refine vm (i := 0) (v := .slice p X.length c) rfl rfl rfl ?_
       refine vm (i := 1) (v := .int .i64 ((i : Nat) : Int)) rfl rfl rfl ?_
       obtain ⟨y1, g1_, f1_, hy1, hp1, hc1⟩ := RL.at (RL.base HP.out) covC_len (by decide) (hW5.sub (fun _ h => by cases h)) (k := i) Tw.om
       refine vp (i := 2) (v := .pointer (some ⟨g1_, f1_ + i * 2, none⟩)) rfl rfl rfl (run_idxQ (p := p) (cap := c) (n := X.length) (j := .i64) (k := i) (sz := 2) rfl Tryd.underlying23 Tw.kr Tw.kr hp1 Tw.kr Tw.om) ?_
       refine vb (i := 3) (v := .agg (covC y1).toArray) rfl rfl rfl (yb_rs (off := f1_ + i * 2) (cs := covC y1) rfl Tw.kr (fun W hW => hc1 W (hW.sub (fun _ h => by cases h))) Tryd.underlying67 rfl Tw.kr) ?_
       refine vm (i := 4) (v := .slice q l.length d) rfl rfl rfl ?_
       refine vm (i := 5) (v := .int .i64 ((i : Nat) : Int)) rfl rfl rfl ?_
       obtain ⟨y2, g2_, f2_, hy2, hp2, hc2⟩ := RL.at (RL.base HQ.out) covC_len (by decide) (hW5.sub (fun _ h => by cases h)) (k := i) Tw.om
       refine vp (i := 6) (v := .pointer (some ⟨g2_, f2_ + i * 2, none⟩)) rfl rfl rfl (run_idxQ (p := q) (cap := d) (n := l.length) (j := .i64) (k := i) (sz := 2) rfl Tryd.underlying23 Tw.kr Tw.kr hp2 Tw.kr Tw.om) ?_
       refine vb (i := 7) (v := .agg (covC y2).toArray) rfl rfl rfl (yb_rs (off := f2_ + i * 2) (cs := covC y2) rfl Tw.kr (fun W hW => hc2 W (hW.sub (fun _ h => by cases h))) Tryd.underlying67 rfl Tw.kr) ?_
       refine vv (i := 8) (v := .bool true) rfl rfl rfl (yb_call (f := 93) (args := #[.agg (covC y1).toArray, .agg (covC y2).toArray]) Tw.kf fun W hW => (by obtain ⟨q7, d7, e7, R7⟩ := lentOA_pre HA.out hy1 hy2; rw [e7]; exact sw_SameCover y2 q7 d7 (by have := lr y2 (List.mem_of_getElem? hy2); omega) W ((HR.out y2 (List.mem_of_getElem? hy2)).keep hW.1) (R7.keep hW.1))) ?_
       refine vm (i := 9) (v := .bool false) rfl rfl rfl ?_
       refine wpV_done Tw.kr (fun W7 hW7 => ?_) _
       change Code.wp ..
       refine wp_cond_false rfl ?_
       refine wp_skip ?_
       change Code.wp ..
       refine wp_region_L _ hW7 ?_
       refine lm (v := .int .i64 ((i : Nat) : Int)) rfl rfl ?_
       refine lp (v := .int .i64 (((i + 1) : Nat) : Int)) rfl rfl (run_bin rfl (vx := (.int .i64 ((i : Nat) : Int))) (vy := (.int .i64 ((1 : Nat) : Int))) Tw.kr Tw.kr fun w => bn_add (z := (i + 1)) rfl (wr_i64 Tw.om) w) ?_
       refine lm (v := .int .i64 (((i + 1) : Nat) : Int)) rfl rfl ?_
       refine wpL_done (fun W8 hW8 => ?_)
       go_roundw
       case rel =>
         repeat apply Exists.intro
         exact ⟨⟨i + 1, Tw.om, rfl, (hW8.sub (fun p hp => by first | exact hp | (simp only [List.mem_cons, List.mem_append, List.nil_append, List.not_mem_nil, or_assoc, or_false, false_or] at hp ⊢ <;> grind)))⟩, rfl⟩
       case measure => (show l.length - (intOf (.int .i64 (((i + 1) : Nat) : Int))).toNat < l.length - (intOf (.int .i64 ((i : Nat) : Int))).toNat); simp only [intOf]; omega
set_option maxRecDepth 100000 in
set_option maxHeartbeats 4000000 in
theorem SameColumns_any (l X : List Col) (p q : Option Addr) (c d : Nat) (hl : l.length ≤ 1000000) (lr : ∀ o ∈ l, o.plugs.length ≤ 1000000) (hX : X.length = l.length) (w : World) (hp : SLV w p (X.flatMap colC)) (ha : LentCA w l X) (hq : SLV w q (l.flatMap colC)) (hr : PlR w l) : Calls Tryd.prog 85 #[.slice p X.length c, .slice q l.length d] w fun e w' => e = .returned (.bool true) ∧ Below w.heap.size w w' := by
 have HP := Lib.hid hp
 clear hp
 have HQ := Lib.hid hq
 clear hq
 have HA := Lib.hid ha
 clear ha
 have HR := Lib.hid hr
 clear hr
 go_enter Tryd.func85, Tryd.ntmps85
 refine wp_seq ?_
 refine wp_region_L [] (KS.start w) ?_
 refine lm (v := .bool false) rfl rfl ?_
 refine wpL_done (fun W1 hW1 => ?_)
 change Code.wp ..
 refine wp_seq ?_
 refine wp_seq ?_
 refine wp_region_L _ hW1 ?_
 refine lm (v := .slice p X.length c) rfl rfl ?_
 refine lp (v := .int .i64 ((X.length : Nat) : Int)) rfl rfl (run_lenL (p := p) (cap := c) (n := X.length) rfl Tryd.underlying22 Tw.kr) ?_
 refine lm (v := .slice q l.length d) rfl rfl ?_
 refine lp (v := .int .i64 ((l.length : Nat) : Int)) rfl rfl (run_lenL (p := q) (cap := d) (n := l.length) rfl Tryd.underlying22 Tw.kr) ?_
 refine lp (v := .bool (!(decide (X.length = l.length)))) rfl rfl (run_bin rfl (vx := (.int .i64 ((X.length : Nat) : Int))) (vy := (.int .i64 ((l.length : Nat) : Int))) Tw.kr Tw.kr fun w => bn_neq rfl w) ?_
 refine wpL_done (fun W2 hW2 => ?_)
 change Code.wp ..
 cases hd1 : (decide (X.length = l.length)) with
 | false =>
   have h1 : ¬ (X.length = l.length) := of_decide_eq_false hd1
   clear hd1
   exact absurd hX h1
 | true =>
   have h1 : X.length = l.length := of_decide_eq_true hd1
   clear hd1
   refine wp_cond_false rfl ?_
   refine wp_skip ?_
   change Code.wp ..
   refine wp_seq ?_
   refine wp_seq ?_
   refine wp_region_L _ hW2 ?_
   refine lm (v := .int .i64 0) rfl rfl ?_
   refine wpL_done (fun W3 hW3 => ?_)
   change Code.wp ..
   refine wp_block ?_
   go_loopw [5] (fun u5 wr => ∃ (i : Nat), (i ≤ l.length) ∧ u5 = .int .i64 ((i : Nat) : Int) ∧ KS w [] wr) (fun u5 _ => l.length - (intOf u5).toNat)
   case atStart => exact ⟨0, (Nat.zero_le _), rfl, (hW3.sub (fun p hp => by first | exact hp | (simp only [List.mem_cons, List.mem_append, List.nil_append, List.not_mem_nil, or_assoc, or_false, false_or] at hp ⊢ <;> grind)))⟩
   case round =>
     obtain ⟨i, hi, rfl, hL4⟩ := hrel
     refine wp_seq ?_
     refine wp_seq ?_
     refine wp_region_L _ hL4 ?_
     refine lm (v := .int .i64 ((i : Nat) : Int)) rfl rfl ?_
     refine lm (v := .slice p X.length c) rfl rfl ?_
     refine lp (v := .int .i64 ((X.length : Nat) : Int)) rfl rfl (run_lenL (p := p) (cap := c) (n := X.length) rfl Tryd.underlying22 Tw.kr) ?_
     refine lp (v := .bool (decide (i < X.length))) rfl rfl (run_bin rfl (vx := (.int .i64 ((i : Nat) : Int))) (vy := (.int .i64 ((X.length : Nat) : Int))) Tw.kr Tw.kr fun w => bn_lss rfl w) ?_
     refine wpL_done (fun W5 hW5 => ?_)
     change Code.wp ..
     cases hd2 : (decide (i < X.length)) with
     | false =>
       have h2 : ¬ (i < X.length) := of_decide_eq_false hd2
       clear hd2
       refine wp_cond_false rfl ?_
       refine wp_exit ?_
       change Code.wp ..
       refine wp_seq ?_
       refine wp_region_L _ hW5 ?_
       refine lm (v := .bool true) rfl rfl ?_
       refine wpL_done (fun W6 hW6 => ?_)
       change Code.wp ..
       refine wp_ret ?_
       try simp only [inBlock_ret, then_ret]
       refine bodyPost_ret (v := .bool true) ?_ rfl ?_
       · kernel_rfl
       · exact ⟨rfl, hW6.1⟩
     | true =>
       have h2 : i < X.length := of_decide_eq_true hd2
       clear hd2
       refine wp_cond_true rfl ?_
       refine wp_skip ?_
       change Code.wp ..
       refine wp_seq ?_
       refine wp_block ?_
       refine wp_seq ?_
       refine wp_region_V _ Tw.kr hW5 ?_
       refine vm (i := 0) (v := .slice p X.length c) rfl rfl rfl ?_
       refine vm (i := 1) (v := .int .i64 ((i : Nat) : Int)) rfl rfl rfl ?_
       obtain ⟨y1, g1_, f1_, hy1, hp1, hc1⟩ := RL.at (RL.base HP.out) colC_len (by decide) (hW5.sub (fun _ h => by cases h)) (k := i) Tw.om
       refine vp (i := 2) (v := .pointer (some ⟨g1_, f1_ + i * 12, none⟩)) rfl rfl rfl (run_idxQ (p := p) (cap := c) (n := X.length) (j := .i64) (k := i) (sz := 12) rfl Tryd.underlying22 Tw.kr Tw.kr hp1 Tw.kr Tw.om) ?_
       refine vb (i := 3) (v := .agg (colC y1).toArray) rfl rfl rfl (yb_rs (off := f1_ + i * 12) (cs := colC y1) rfl Tw.kr (fun W hW => hc1 W (hW.sub (fun _ h => by cases h))) Tryd.underlying65 rfl Tw.kr) ?_
       refine vm (i := 4) (v := .slice q l.length d) rfl rfl rfl ?_
       refine vm (i := 5) (v := .int .i64 ((i : Nat) : Int)) rfl rfl rfl ?_
       obtain ⟨y2, g2_, f2_, hy2, hp2, hc2⟩ := RL.at (RL.base HQ.out) colC_len (by decide) (hW5.sub (fun _ h => by cases h)) (k := i) Tw.om
       refine vp (i := 6) (v := .pointer (some ⟨g2_, f2_ + i * 12, none⟩)) rfl rfl rfl (run_idxQ (p := q) (cap := d) (n := l.length) (j := .i64) (k := i) (sz := 12) rfl Tryd.underlying22 Tw.kr Tw.kr hp2 Tw.kr Tw.om) ?_
       refine vb (i := 7) (v := .agg (colC y2).toArray) rfl rfl rfl (yb_rs (off := f2_ + i * 12) (cs := colC y2) rfl Tw.kr (fun W hW => hc2 W (hW.sub (fun _ h => by cases h))) Tryd.underlying65 rfl Tw.kr) ?_
       refine vv (i := 8) (v := .bool true) rfl rfl rfl (yb_call (f := 91) (args := #[.agg (colC y1).toArray, .agg (colC y2).toArray]) Tw.kf fun W hW => (by obtain ⟨q7, d7, e7, R7⟩ := lentCA_pre HA.out hy1 hy2; rw [e7]; exact sw_SameColumn y2 q7 d7 (by have := lr y2 (List.mem_of_getElem? hy2); omega) W ((HR.out y2 (List.mem_of_getElem? hy2)).keep hW.1) (R7.keep hW.1))) ?_
       refine vm (i := 9) (v := .bool false) rfl rfl rfl ?_
       refine wpV_done Tw.kr (fun W7 hW7 => ?_) _
       change Code.wp ..
       refine wp_cond_false rfl ?_
       refine wp_skip ?_
       change Code.wp ..
       refine wp_region_L _ hW7 ?_
       refine lm (v := .int .i64 ((i : Nat) : Int)) rfl rfl ?_
       refine lp (v := .int .i64 (((i + 1) : Nat) : Int)) rfl rfl (run_bin rfl (vx := (.int .i64 ((i : Nat) : Int))) (vy := (.int .i64 ((1 : Nat) : Int))) Tw.kr Tw.kr fun w => bn_add (z := (i + 1)) rfl (wr_i64 Tw.om) w) ?_
       refine lm (v := .int .i64 (((i + 1) : Nat) : Int)) rfl rfl ?_
       refine wpL_done (fun W8 hW8 => ?_)
       go_roundw
       case rel =>
         repeat apply Exists.intro
         exact ⟨⟨i + 1, Tw.om, rfl, (hW8.sub (fun p hp => by first | exact hp | (simp only [List.mem_cons, List.mem_append, List.nil_append, List.not_mem_nil, or_assoc, or_false, false_or] at hp ⊢ <;> grind)))⟩, rfl⟩
       case measure => (show l.length - (intOf (.int .i64 (((i + 1) : Nat) : Int))).toNat < l.length - (intOf (.int .i64 ((i : Nat) : Int))).toNat); simp only [intOf]; omega
end Go.Proofs.YtlinjngifacmoaaDoor
namespace Go.Proofs.YtlinjngifacmoaaDoor
open Go Go.RowKit Tw
set_option maxRecDepth 100000 in
set_option maxHeartbeats 4000000 in
theorem KeptCovers_any (l X : List Cov) (p q : Option Addr) (c d : Nat) (hl : l.length ≤ 1000000) (lr : ∀ o ∈ l, o.rows.length ≤ 1000000) (hX : X.length = l.length) (hc : l.length + 12 ≤ c) (w : World) (hp : SLV w p ((X ++ mkCovL 12).flatMap covC)) (ha : LentOA w l X) (hq : SLV w q (l.flatMap covC)) (hr : RwR w l) : Calls Tryd.prog 62 #[.slice p l.length c, .slice q l.length d] w fun e w' => e = .returned (.bool true) ∧ Below w.heap.size w w' := by
 have HP := Lib.hid hp
 clear hp
 have HQ := Lib.hid hq
 clear hq
 have HA := Lib.hid ha
 clear ha
 have HR := Lib.hid hr
 clear hr
 have hlen : (X ++ mkCovL 12).length = l.length + 12 := by rw [List.length_append, mkCovL_len, hX]
 go_enter Tryd.func62, Tryd.ntmps62
 refine wp_seq ?_
 refine wp_region_L [] (KS.start w) ?_
 refine lm (v := .bool false) rfl rfl ?_
 refine wpL_done (fun W1 hW1 => ?_)
 change Code.wp ..
 refine wp_seq ?_
 refine wp_seq ?_
 refine wp_region_L _ hW1 ?_
 refine lm (v := .slice p l.length c) rfl rfl ?_
 refine lp (v := .int .i64 ((l.length : Nat) : Int)) rfl rfl (run_lenL (p := p) (cap := c) (n := l.length) rfl Tryd.underlying23 Tw.kr) ?_
 refine lm (v := .slice q l.length d) rfl rfl ?_
 refine lp (v := .int .i64 ((l.length : Nat) : Int)) rfl rfl (run_lenL (p := q) (cap := d) (n := l.length) rfl Tryd.underlying23 Tw.kr) ?_
 refine lp (v := .bool false) rfl rfl (run_bin rfl (vx := (.int .i64 ((l.length : Nat) : Int))) (vy := (.int .i64 ((l.length : Nat) : Int))) Tw.kr Tw.kr fun w => bn_neq (decide_eq_true rfl) w) ?_
 refine wpL_done (fun W2 hW2 => ?_)
 change Code.wp ..
 refine wp_cond_false rfl ?_
 refine wp_skip ?_
 change Code.wp ..
 refine wp_seq ?_
 refine wp_region_L _ hW2 ?_
 refine lm (v := .slice p l.length c) rfl rfl ?_
 refine lm (v := .slice q l.length d) rfl rfl ?_
 refine lp (v := .int .i64 ((l.length : Nat) : Int)) rfl rfl (run_lenL (p := q) (cap := d) (n := l.length) rfl Tryd.underlying23 Tw.kr) ?_
 refine lp (v := .int .i64 (((l.length + 12) : Nat) : Int)) rfl rfl (run_bin rfl (vx := (.int .i64 ((l.length : Nat) : Int))) (vy := (.int .i64 ((12 : Nat) : Int))) Tw.kr Tw.kr fun w => bn_add (z := (l.length + 12)) rfl (wr_i64 Tw.om) w) ?_
 refine lp (v := .slice p (l.length + 12) c) rfl rfl (run_slt (kd := .i64) (j := (l.length + 12)) (n := l.length) (c := c) (sz := 2) rfl Tryd.underlying23 Tw.kr Tw.kr Tw.kr Tw.om) ?_
 refine lm (v := .slice p (l.length + 12) c) rfl rfl ?_
 refine wpL_done (fun W3 hW3 => ?_)
 change Code.wp ..
 refine wp_seq ?_
 refine wp_seq ?_
 refine wp_region_L _ hW3 ?_
 refine lm (v := .int .i64 0) rfl rfl ?_
 refine wpL_done (fun W4 hW4 => ?_)
 change Code.wp ..
 refine wp_block ?_
 go_loopw [6] (fun u6 wr => ∃ (i : Nat), (i ≤ l.length + 12) ∧ u6 = .int .i64 ((i : Nat) : Int) ∧ KS w [] wr) (fun u6 _ => l.length + 12 - (intOf u6).toNat)
 case atStart => exact ⟨0, (Nat.zero_le _), rfl, (hW4.sub (fun p hp => by first | exact hp | (simp only [List.mem_cons, List.mem_append, List.nil_append, List.not_mem_nil, or_assoc, or_false, false_or] at hp ⊢ <;> grind)))⟩
 case round =>
   obtain ⟨i, hi, rfl, hL5⟩ := hrel
   refine wp_seq ?_
   refine wp_seq ?_
   refine wp_region_L _ hL5 ?_
   refine lm (v := .int .i64 ((i : Nat) : Int)) rfl rfl ?_
   refine lm (v := .slice p (l.length + 12) c) rfl rfl ?_
   refine lp (v := .int .i64 (((l.length + 12) : Nat) : Int)) rfl rfl (run_lenL (p := p) (cap := c) (n := (l.length + 12)) rfl Tryd.underlying23 Tw.kr) ?_
   refine lp (v := .bool (decide (i < (l.length + 12)))) rfl rfl (run_bin rfl (vx := (.int .i64 ((i : Nat) : Int))) (vy := (.int .i64 (((l.length + 12) : Nat) : Int))) Tw.kr Tw.kr fun w => bn_lss rfl w) ?_
   refine wpL_done (fun W6 hW6 => ?_)
   change Code.wp ..
   cases hd1 : (decide (i < (l.length + 12))) with
   | false =>
     have h1 : ¬ (i < (l.length + 12)) := of_decide_eq_false hd1
     clear hd1
     refine wp_cond_false rfl ?_
     refine wp_exit ?_
     change Code.wp ..
     refine wp_seq ?_
     refine wp_region_L _ hW6 ?_
     refine lm (v := .bool true) rfl rfl ?_
     refine wpL_done (fun W7 hW7 => ?_)
     change Code.wp ..
     refine wp_ret ?_
     try simp only [inBlock_ret, then_ret]
     refine bodyPost_ret (v := .bool true) ?_ rfl ?_
     · kernel_rfl
     · exact ⟨rfl, hW7.1⟩
   | true =>
     have h1 : i < (l.length + 12) := of_decide_eq_true hd1
     clear hd1
     refine wp_cond_true rfl ?_
     refine wp_skip ?_
     change Code.wp ..
     refine wp_seq ?_
     refine wp_block ?_
     refine wp_seq ?_
     refine wp_region_V _ Tw.kr hW6 ?_
     refine vm (i := 0) (v := .int .i64 ((i : Nat) : Int)) rfl rfl rfl ?_
     refine vm (i := 1) (v := .slice q l.length d) rfl rfl rfl ?_
     refine vp (i := 2) (v := .int .i64 ((l.length : Nat) : Int)) rfl rfl rfl (run_lenL (p := q) (cap := d) (n := l.length) rfl Tryd.underlying23 Tw.kr) ?_
     refine vp (i := 3) (v := .bool (decide (i < l.length))) rfl rfl rfl (run_bin rfl (vx := (.int .i64 ((i : Nat) : Int))) (vy := (.int .i64 ((l.length : Nat) : Int))) Tw.kr Tw.kr fun w => bn_lss rfl w) ?_
     refine vm (i := 4) (v := .bool (decide (i < l.length))) rfl rfl rfl ?_
     cases hd2 : (decide (i < l.length)) with
     | false =>
       have h2 : ¬ (i < l.length) := of_decide_eq_false hd2
       clear hd2
       refine vn (i := 5) rfl rfl ?_
       refine vn (i := 6) rfl rfl ?_
       refine vn (i := 7) rfl rfl ?_
       refine vn (i := 8) rfl rfl ?_
       refine vn (i := 9) rfl rfl ?_
       refine vn (i := 10) rfl rfl ?_
       refine vn (i := 11) rfl rfl ?_
       refine vn (i := 12) rfl rfl ?_
       refine vn (i := 13) rfl rfl ?_
       refine vn (i := 14) rfl rfl ?_
       refine vm (i := 15) (v := .bool false) rfl rfl rfl ?_
       refine vm (i := 16) (v := .bool false) rfl rfl rfl ?_
       refine vm (i := 17) (v := .int .i64 ((i : Nat) : Int)) rfl rfl rfl ?_
       refine vm (i := 18) (v := .slice q l.length d) rfl rfl rfl ?_
       refine vp (i := 19) (v := .int .i64 ((l.length : Nat) : Int)) rfl rfl rfl (run_lenL (p := q) (cap := d) (n := l.length) rfl Tryd.underlying23 Tw.kr) ?_
       refine vp (i := 20) (v := .bool true) rfl rfl rfl (run_bin rfl (vx := (.int .i64 ((i : Nat) : Int))) (vy := (.int .i64 ((l.length : Nat) : Int))) Tw.kr Tw.kr fun w => bn_geq (decide_eq_false (by assumption)) w) ?_
       refine vm (i := 21) (v := .bool true) rfl rfl rfl ?_
       refine vm (i := 22) (v := .slice p (l.length + 12) c) rfl rfl rfl ?_
       refine vm (i := 23) (v := .int .i64 ((i : Nat) : Int)) rfl rfl rfl ?_
       obtain ⟨y1, g1_, f1_, hy1, hp1, hc1⟩ := RL.at (RL.base HP.out) covC_len (by decide) (hW6.sub (fun _ h => by cases h)) (k := i) Tw.om
       refine vp (i := 24) (v := .pointer (some ⟨g1_, f1_ + i * 2, none⟩)) rfl rfl rfl (run_idxQ (p := p) (cap := c) (n := (l.length + 12)) (j := .i64) (k := i) (sz := 2) rfl Tryd.underlying23 Tw.kr Tw.kr hp1 Tw.kr Tw.om) ?_
       refine vb (i := 25) (v := .agg (covC y1).toArray) rfl rfl rfl (yb_rs (off := f1_ + i * 2) (cs := covC y1) rfl Tw.kr (fun W hW => hc1 W (hW.sub (fun _ h => by cases h))) Tryd.underlying67 rfl Tw.kr) ?_
       refine vm (i := 26) (v := .int .i64 ((i : Nat) : Int)) rfl rfl rfl ?_
       refine vm (i := 27) (v := .slice q l.length d) rfl rfl rfl ?_
       refine vp (i := 28) (v := .int .i64 ((l.length : Nat) : Int)) rfl rfl rfl (run_lenL (p := q) (cap := d) (n := l.length) rfl Tryd.underlying23 Tw.kr) ?_
       refine vp (i := 29) (v := .int .i64 (((i - l.length) : Nat) : Int)) rfl rfl rfl (run_bin rfl (vx := (.int .i64 ((i : Nat) : Int))) (vy := (.int .i64 ((l.length : Nat) : Int))) Tw.kr Tw.kr fun w => bn_sub (z := (i - l.length)) rfl Tw.om (wr_i64 Tw.om) w) ?_
       refine vv (i := 30) (v := .agg (covC (mkCov (i - l.length))).toArray) rfl rfl rfl (yb_call (f := 74) (args := #[.int .i64 1, .int .i64 (((i - l.length) : Nat) : Int)]) Tw.kf fun W hW => markCover_any (i - l.length) Tw.om W) ?_
       refine vv (i := 31) (v := .bool true) rfl rfl rfl (yb_call (f := 93) (args := #[.agg (covC y1).toArray, .agg (covC (mkCov (i - l.length))).toArray]) Tw.kf fun W hW => (by rw [markOA_at hy1 hX h2]; exact SameCover_any (mkCov (i - l.length)) none 0 (Nat.zero_le _) W (.inl rfl) (.inl rfl))) ?_
       refine vm (i := 32) (v := .bool false) rfl rfl rfl ?_
       refine vm (i := 33) (v := .bool false) rfl rfl rfl ?_
       refine vm (i := 34) (v := .bool false) rfl rfl rfl ?_
       refine wpV_done Tw.kr (fun W8 hW8 => ?_) _
       change Code.wp ..
       refine wp_cond_false rfl ?_
       refine wp_skip ?_
       change Code.wp ..
       refine wp_region_L _ hW8 ?_
       refine lm (v := .int .i64 ((i : Nat) : Int)) rfl rfl ?_
       refine lp (v := .int .i64 (((i + 1) : Nat) : Int)) rfl rfl (run_bin rfl (vx := (.int .i64 ((i : Nat) : Int))) (vy := (.int .i64 ((1 : Nat) : Int))) Tw.kr Tw.kr fun w => bn_add (z := (i + 1)) rfl (wr_i64 Tw.om) w) ?_
       refine lm (v := .int .i64 (((i + 1) : Nat) : Int)) rfl rfl ?_
       refine wpL_done (fun W9 hW9 => ?_)
       go_roundw
       case rel =>
         repeat apply Exists.intro
         exact ⟨⟨i + 1, Tw.om, rfl, (hW9.sub (fun p hp => by first | exact hp | (simp only [List.mem_cons, List.mem_append, List.nil_append, List.not_mem_nil, or_assoc, or_false, false_or] at hp ⊢ <;> grind)))⟩, rfl⟩
       case measure => (show l.length + 12 - (intOf (.int .i64 (((i + 1) : Nat) : Int))).toNat < l.length + 12 - (intOf (.int .i64 ((i : Nat) : Int))).toNat); simp only [intOf]; omega
     | true =>
       have h2 : i < l.length := of_decide_eq_true hd2
       clear hd2
       refine vm (i := 5) (v := .slice p (l.length + 12) c) rfl rfl rfl ?_
       refine vm (i := 6) (v := .int .i64 ((i : Nat) : Int)) rfl rfl rfl ?_
       obtain ⟨y2, g2_, f2_, hy2, hp2, hc2⟩ := RL.at (RL.base HP.out) covC_len (by decide) (hW6.sub (fun _ h => by cases h)) (k := i) Tw.om
       refine vp (i := 7) (v := .pointer (some ⟨g2_, f2_ + i * 2, none⟩)) rfl rfl rfl (run_idxQ (p := p) (cap := c) (n := (l.length + 12)) (j := .i64) (k := i) (sz := 2) rfl Tryd.underlying23 Tw.kr Tw.kr hp2 Tw.kr Tw.om) ?_
       refine vb (i := 8) (v := .agg (covC y2).toArray) rfl rfl rfl (yb_rs (off := f2_ + i * 2) (cs := covC y2) rfl Tw.kr (fun W hW => hc2 W (hW.sub (fun _ h => by cases h))) Tryd.underlying67 rfl Tw.kr) ?_
       refine vm (i := 9) (v := .slice q l.length d) rfl rfl rfl ?_
       refine vm (i := 10) (v := .int .i64 ((i : Nat) : Int)) rfl rfl rfl ?_
       obtain ⟨y3, g3_, f3_, hy3, hp3, hc3⟩ := RL.at (RL.base HQ.out) covC_len (by decide) (hW6.sub (fun _ h => by cases h)) (k := i) Tw.om
       refine vp (i := 11) (v := .pointer (some ⟨g3_, f3_ + i * 2, none⟩)) rfl rfl rfl (run_idxQ (p := q) (cap := d) (n := l.length) (j := .i64) (k := i) (sz := 2) rfl Tryd.underlying23 Tw.kr Tw.kr hp3 Tw.kr Tw.om) ?_
       refine vb (i := 12) (v := .agg (covC y3).toArray) rfl rfl rfl (yb_rs (off := f3_ + i * 2) (cs := covC y3) rfl Tw.kr (fun W hW => hc3 W (hW.sub (fun _ h => by cases h))) Tryd.underlying67 rfl Tw.kr) ?_
       refine vv (i := 13) (v := .bool true) rfl rfl rfl (yb_call (f := 92) (args := #[.agg (covC y2).toArray, .agg (covC y3).toArray]) Tw.kf fun W hW => (by obtain ⟨q7, d7, e7, n7, R7⟩ := lentOA_at HA.out hy2 hX hy3; rw [e7]; exact KeptCover_any y3 q7 d7 (lr y3 (List.mem_of_getElem? hy3)) n7 W ((HR.out y3 (List.mem_of_getElem? hy3)).keep hW.1) (R7.keep hW.1))) ?_
       refine vm (i := 14) (v := .bool false) rfl rfl rfl ?_
       refine vm (i := 15) (v := .bool false) rfl rfl rfl ?_
       refine vm (i := 16) (v := .bool false) rfl rfl rfl ?_
       refine vm (i := 17) (v := .int .i64 ((i : Nat) : Int)) rfl rfl rfl ?_
       refine vm (i := 18) (v := .slice q l.length d) rfl rfl rfl ?_
       refine vp (i := 19) (v := .int .i64 ((l.length : Nat) : Int)) rfl rfl rfl (run_lenL (p := q) (cap := d) (n := l.length) rfl Tryd.underlying23 Tw.kr) ?_
       refine vp (i := 20) (v := .bool false) rfl rfl rfl (run_bin rfl (vx := (.int .i64 ((i : Nat) : Int))) (vy := (.int .i64 ((l.length : Nat) : Int))) Tw.kr Tw.kr fun w => bn_geq (decide_eq_true (by assumption)) w) ?_
       refine vm (i := 21) (v := .bool false) rfl rfl rfl ?_
       refine vn (i := 22) rfl rfl ?_
       refine vn (i := 23) rfl rfl ?_
       refine vn (i := 24) rfl rfl ?_
       refine vn (i := 25) rfl rfl ?_
       refine vn (i := 26) rfl rfl ?_
       refine vn (i := 27) rfl rfl ?_
       refine vn (i := 28) rfl rfl ?_
       refine vn (i := 29) rfl rfl ?_
       refine vn (i := 30) rfl rfl ?_
       refine vn (i := 31) rfl rfl ?_
       refine vn (i := 32) rfl rfl ?_
       refine vm (i := 33) (v := .bool false) rfl rfl rfl ?_
       refine vm (i := 34) (v := .bool false) rfl rfl rfl ?_
       refine wpV_done Tw.kr (fun W10 hW10 => ?_) _
       change Code.wp ..
       refine wp_cond_false rfl ?_
       refine wp_skip ?_
       change Code.wp ..
       refine wp_region_L _ hW10 ?_
       refine lm (v := .int .i64 ((i : Nat) : Int)) rfl rfl ?_
       refine lp (v := .int .i64 (((i + 1) : Nat) : Int)) rfl rfl (run_bin rfl (vx := (.int .i64 ((i : Nat) : Int))) (vy := (.int .i64 ((1 : Nat) : Int))) Tw.kr Tw.kr fun w => bn_add (z := (i + 1)) rfl (wr_i64 Tw.om) w) ?_
       refine lm (v := .int .i64 (((i + 1) : Nat) : Int)) rfl rfl ?_
       refine wpL_done (fun W11 hW11 => ?_)
       go_roundw
       case rel =>
         repeat apply Exists.intro
         exact ⟨⟨i + 1, Tw.om, rfl, (hW11.sub (fun p hp => by first | exact hp | (simp only [List.mem_cons, List.mem_append, List.nil_append, List.not_mem_nil, or_assoc, or_false, false_or] at hp ⊢ <;> grind)))⟩, rfl⟩
       case measure => (show l.length + 12 - (intOf (.int .i64 (((i + 1) : Nat) : Int))).toNat < l.length + 12 - (intOf (.int .i64 ((i : Nat) : Int))).toNat); simp only [intOf]; omega
set_option maxRecDepth 100000 in
set_option maxHeartbeats 4000000 in
theorem KeptColumns_any (l X : List Col) (p q : Option Addr) (c d : Nat) (hl : l.length ≤ 1000000) (lr : ∀ o ∈ l, o.plugs.length ≤ 1000000) (hX : X.length = l.length) (hc : l.length + 12 ≤ c) (w : World) (hp : SLV w p ((X ++ mkColL 12).flatMap colC)) (ha : LentCA w l X) (hq : SLV w q (l.flatMap colC)) (hr : PlR w l) : Calls Tryd.prog 61 #[.slice p l.length c, .slice q l.length d] w fun e w' => e = .returned (.bool true) ∧ Below w.heap.size w w' := by
 have HP := Lib.hid hp
 clear hp
 have HQ := Lib.hid hq
 clear hq
 have HA := Lib.hid ha
 clear ha
 have HR := Lib.hid hr
 clear hr
 have hlen : (X ++ mkColL 12).length = l.length + 12 := by rw [List.length_append, mkColL_len, hX]
 go_enter Tryd.func61, Tryd.ntmps61
 refine wp_seq ?_
 refine wp_region_L [] (KS.start w) ?_
 refine lm (v := .bool false) rfl rfl ?_
 refine wpL_done (fun W1 hW1 => ?_)
 change Code.wp ..
 refine wp_seq ?_
 refine wp_seq ?_
 refine wp_region_L _ hW1 ?_
 refine lm (v := .slice p l.length c) rfl rfl ?_
 refine lp (v := .int .i64 ((l.length : Nat) : Int)) rfl rfl (run_lenL (p := p) (cap := c) (n := l.length) rfl Tryd.underlying22 Tw.kr) ?_
 refine lm (v := .slice q l.length d) rfl rfl ?_
 refine lp (v := .int .i64 ((l.length : Nat) : Int)) rfl rfl (run_lenL (p := q) (cap := d) (n := l.length) rfl Tryd.underlying22 Tw.kr) ?_
 refine lp (v := .bool false) rfl rfl (run_bin rfl (vx := (.int .i64 ((l.length : Nat) : Int))) (vy := (.int .i64 ((l.length : Nat) : Int))) Tw.kr Tw.kr fun w => bn_neq (decide_eq_true rfl) w) ?_
 refine wpL_done (fun W2 hW2 => ?_)
 change Code.wp ..
 refine wp_cond_false rfl ?_
 refine wp_skip ?_
 change Code.wp ..
 refine wp_seq ?_
 refine wp_region_L _ hW2 ?_
 refine lm (v := .slice p l.length c) rfl rfl ?_
 refine lm (v := .slice q l.length d) rfl rfl ?_
 refine lp (v := .int .i64 ((l.length : Nat) : Int)) rfl rfl (run_lenL (p := q) (cap := d) (n := l.length) rfl Tryd.underlying22 Tw.kr) ?_
 refine lp (v := .int .i64 (((l.length + 12) : Nat) : Int)) rfl rfl (run_bin rfl (vx := (.int .i64 ((l.length : Nat) : Int))) (vy := (.int .i64 ((12 : Nat) : Int))) Tw.kr Tw.kr fun w => bn_add (z := (l.length + 12)) rfl (wr_i64 Tw.om) w) ?_
 refine lp (v := .slice p (l.length + 12) c) rfl rfl (run_slt (kd := .i64) (j := (l.length + 12)) (n := l.length) (c := c) (sz := 12) rfl Tryd.underlying22 Tw.kr Tw.kr Tw.kr Tw.om) ?_
 refine lm (v := .slice p (l.length + 12) c) rfl rfl ?_
 refine wpL_done (fun W3 hW3 => ?_)
 change Code.wp ..
 refine wp_seq ?_
 refine wp_seq ?_
 refine wp_region_L _ hW3 ?_
 refine lm (v := .int .i64 0) rfl rfl ?_
 refine wpL_done (fun W4 hW4 => ?_)
 change Code.wp ..
 refine wp_block ?_
 go_loopw [6] (fun u6 wr => ∃ (i : Nat), (i ≤ l.length + 12) ∧ u6 = .int .i64 ((i : Nat) : Int) ∧ KS w [] wr) (fun u6 _ => l.length + 12 - (intOf u6).toNat)
 case atStart => exact ⟨0, (Nat.zero_le _), rfl, (hW4.sub (fun p hp => by first | exact hp | (simp only [List.mem_cons, List.mem_append, List.nil_append, List.not_mem_nil, or_assoc, or_false, false_or] at hp ⊢ <;> grind)))⟩
 case round =>
   obtain ⟨i, hi, rfl, hL5⟩ := hrel
   refine wp_seq ?_
   refine wp_seq ?_
   refine wp_region_L _ hL5 ?_
   refine lm (v := .int .i64 ((i : Nat) : Int)) rfl rfl ?_
   refine lm (v := .slice p (l.length + 12) c) rfl rfl ?_
   refine lp (v := .int .i64 (((l.length + 12) : Nat) : Int)) rfl rfl (run_lenL (p := p) (cap := c) (n := (l.length + 12)) rfl Tryd.underlying22 Tw.kr) ?_
   refine lp (v := .bool (decide (i < (l.length + 12)))) rfl rfl (run_bin rfl (vx := (.int .i64 ((i : Nat) : Int))) (vy := (.int .i64 (((l.length + 12) : Nat) : Int))) Tw.kr Tw.kr fun w => bn_lss rfl w) ?_
   refine wpL_done (fun W6 hW6 => ?_)
   change Code.wp ..
   cases hd1 : (decide (i < (l.length + 12))) with
   | false =>
     have h1 : ¬ (i < (l.length + 12)) := of_decide_eq_false hd1
     clear hd1
     refine wp_cond_false rfl ?_
     refine wp_exit ?_
     change Code.wp ..
     refine wp_seq ?_
     refine wp_region_L _ hW6 ?_
     refine lm (v := .bool true) rfl rfl ?_
     refine wpL_done (fun W7 hW7 => ?_)
     change Code.wp ..
     refine wp_ret ?_
     try simp only [inBlock_ret, then_ret]
     refine bodyPost_ret (v := .bool true) ?_ rfl ?_
     · kernel_rfl
     · exact ⟨rfl, hW7.1⟩
   | true =>
     have h1 : i < (l.length + 12) := of_decide_eq_true hd1
     clear hd1
     refine wp_cond_true rfl ?_
     refine wp_skip ?_
     change Code.wp ..
     refine wp_seq ?_
     refine wp_block ?_
     refine wp_seq ?_
     refine wp_region_V _ Tw.kr hW6 ?_
     refine vm (i := 0) (v := .int .i64 ((i : Nat) : Int)) rfl rfl rfl ?_
     refine vm (i := 1) (v := .slice q l.length d) rfl rfl rfl ?_
     refine vp (i := 2) (v := .int .i64 ((l.length : Nat) : Int)) rfl rfl rfl (run_lenL (p := q) (cap := d) (n := l.length) rfl Tryd.underlying22 Tw.kr) ?_
     refine vp (i := 3) (v := .bool (decide (i < l.length))) rfl rfl rfl (run_bin rfl (vx := (.int .i64 ((i : Nat) : Int))) (vy := (.int .i64 ((l.length : Nat) : Int))) Tw.kr Tw.kr fun w => bn_lss rfl w) ?_
     refine vm (i := 4) (v := .bool (decide (i < l.length))) rfl rfl rfl ?_
     cases hd2 : (decide (i < l.length)) with
     | false =>
       have h2 : ¬ (i < l.length) := of_decide_eq_false hd2
       clear hd2
       refine vn (i := 5) rfl rfl ?_
       refine vn (i := 6) rfl rfl ?_
       refine vn (i := 7) rfl rfl ?_
       refine vn (i := 8) rfl rfl ?_
       refine vn (i := 9) rfl rfl ?_
       refine vn (i := 10) rfl rfl ?_
       refine vn (i := 11) rfl rfl ?_
       refine vn (i := 12) rfl rfl ?_
       refine vn (i := 13) rfl rfl ?_
       refine vn (i := 14) rfl rfl ?_
       refine vm (i := 15) (v := .bool false) rfl rfl rfl ?_
       refine vm (i := 16) (v := .bool false) rfl rfl rfl ?_
       refine vm (i := 17) (v := .int .i64 ((i : Nat) : Int)) rfl rfl rfl ?_
       refine vm (i := 18) (v := .slice q l.length d) rfl rfl rfl ?_
       refine vp (i := 19) (v := .int .i64 ((l.length : Nat) : Int)) rfl rfl rfl (run_lenL (p := q) (cap := d) (n := l.length) rfl Tryd.underlying22 Tw.kr) ?_
       refine vp (i := 20) (v := .bool true) rfl rfl rfl (run_bin rfl (vx := (.int .i64 ((i : Nat) : Int))) (vy := (.int .i64 ((l.length : Nat) : Int))) Tw.kr Tw.kr fun w => bn_geq (decide_eq_false (by assumption)) w) ?_
       refine vm (i := 21) (v := .bool true) rfl rfl rfl ?_
       refine vm (i := 22) (v := .slice p (l.length + 12) c) rfl rfl rfl ?_
       refine vm (i := 23) (v := .int .i64 ((i : Nat) : Int)) rfl rfl rfl ?_
       obtain ⟨y1, g1_, f1_, hy1, hp1, hc1⟩ := RL.at (RL.base HP.out) colC_len (by decide) (hW6.sub (fun _ h => by cases h)) (k := i) Tw.om
       refine vp (i := 24) (v := .pointer (some ⟨g1_, f1_ + i * 12, none⟩)) rfl rfl rfl (run_idxQ (p := p) (cap := c) (n := (l.length + 12)) (j := .i64) (k := i) (sz := 12) rfl Tryd.underlying22 Tw.kr Tw.kr hp1 Tw.kr Tw.om) ?_
       refine vb (i := 25) (v := .agg (colC y1).toArray) rfl rfl rfl (yb_rs (off := f1_ + i * 12) (cs := colC y1) rfl Tw.kr (fun W hW => hc1 W (hW.sub (fun _ h => by cases h))) Tryd.underlying65 rfl Tw.kr) ?_
       refine vm (i := 26) (v := .int .i64 ((i : Nat) : Int)) rfl rfl rfl ?_
       refine vm (i := 27) (v := .slice q l.length d) rfl rfl rfl ?_
       refine vp (i := 28) (v := .int .i64 ((l.length : Nat) : Int)) rfl rfl rfl (run_lenL (p := q) (cap := d) (n := l.length) rfl Tryd.underlying22 Tw.kr) ?_
       refine vp (i := 29) (v := .int .i64 (((i - l.length) : Nat) : Int)) rfl rfl rfl (run_bin rfl (vx := (.int .i64 ((i : Nat) : Int))) (vy := (.int .i64 ((l.length : Nat) : Int))) Tw.kr Tw.kr fun w => bn_sub (z := (i - l.length)) rfl Tw.om (wr_i64 Tw.om) w) ?_
       refine vv (i := 30) (v := .agg (colC (mkCol (i - l.length))).toArray) rfl rfl rfl (yb_call (f := 72) (args := #[.int .i64 1, .int .i64 (((i - l.length) : Nat) : Int)]) Tw.kf fun W hW => markColumn_any (i - l.length) Tw.om W) ?_
       refine vv (i := 31) (v := .bool true) rfl rfl rfl (yb_call (f := 91) (args := #[.agg (colC y1).toArray, .agg (colC (mkCol (i - l.length))).toArray]) Tw.kf fun W hW => (by rw [markCA_at hy1 hX h2]; exact SameColumn_any (mkCol (i - l.length)) none 0 (Nat.zero_le _) W (.inl rfl) (.inl rfl))) ?_
       refine vm (i := 32) (v := .bool false) rfl rfl rfl ?_
       refine vm (i := 33) (v := .bool false) rfl rfl rfl ?_
       refine vm (i := 34) (v := .bool false) rfl rfl rfl ?_
       refine wpV_done Tw.kr (fun W8 hW8 => ?_) _
       change Code.wp ..
       refine wp_cond_false rfl ?_
       refine wp_skip ?_
       change Code.wp ..
       refine wp_region_L _ hW8 ?_
       refine lm (v := .int .i64 ((i : Nat) : Int)) rfl rfl ?_
       refine lp (v := .int .i64 (((i + 1) : Nat) : Int)) rfl rfl (run_bin rfl (vx := (.int .i64 ((i : Nat) : Int))) (vy := (.int .i64 ((1 : Nat) : Int))) Tw.kr Tw.kr fun w => bn_add (z := (i + 1)) rfl (wr_i64 Tw.om) w) ?_
       refine lm (v := .int .i64 (((i + 1) : Nat) : Int)) rfl rfl ?_
       refine wpL_done (fun W9 hW9 => ?_)
       go_roundw
       case rel =>
         repeat apply Exists.intro
         exact ⟨⟨i + 1, Tw.om, rfl, (hW9.sub (fun p hp => by first | exact hp | (simp only [List.mem_cons, List.mem_append, List.nil_append, List.not_mem_nil, or_assoc, or_false, false_or] at hp ⊢ <;> grind)))⟩, rfl⟩
       case measure => (show l.length + 12 - (intOf (.int .i64 (((i + 1) : Nat) : Int))).toNat < l.length + 12 - (intOf (.int .i64 ((i : Nat) : Int))).toNat); simp only [intOf]; omega
     | true =>
       have h2 : i < l.length := of_decide_eq_true hd2
       clear hd2
       refine vm (i := 5) (v := .slice p (l.length + 12) c) rfl rfl rfl ?_
       refine vm (i := 6) (v := .int .i64 ((i : Nat) : Int)) rfl rfl rfl ?_
       obtain ⟨y2, g2_, f2_, hy2, hp2, hc2⟩ := RL.at (RL.base HP.out) colC_len (by decide) (hW6.sub (fun _ h => by cases h)) (k := i) Tw.om
       refine vp (i := 7) (v := .pointer (some ⟨g2_, f2_ + i * 12, none⟩)) rfl rfl rfl (run_idxQ (p := p) (cap := c) (n := (l.length + 12)) (j := .i64) (k := i) (sz := 12) rfl Tryd.underlying22 Tw.kr Tw.kr hp2 Tw.kr Tw.om) ?_
       refine vb (i := 8) (v := .agg (colC y2).toArray) rfl rfl rfl (yb_rs (off := f2_ + i * 12) (cs := colC y2) rfl Tw.kr (fun W hW => hc2 W (hW.sub (fun _ h => by cases h))) Tryd.underlying65 rfl Tw.kr) ?_
       refine vm (i := 9) (v := .slice q l.length d) rfl rfl rfl ?_
       refine vm (i := 10) (v := .int .i64 ((i : Nat) : Int)) rfl rfl rfl ?_
       obtain ⟨y3, g3_, f3_, hy3, hp3, hc3⟩ := RL.at (RL.base HQ.out) colC_len (by decide) (hW6.sub (fun _ h => by cases h)) (k := i) Tw.om
       refine vp (i := 11) (v := .pointer (some ⟨g3_, f3_ + i * 12, none⟩)) rfl rfl rfl (run_idxQ (p := q) (cap := d) (n := l.length) (j := .i64) (k := i) (sz := 12) rfl Tryd.underlying22 Tw.kr Tw.kr hp3 Tw.kr Tw.om) ?_
       refine vb (i := 12) (v := .agg (colC y3).toArray) rfl rfl rfl (yb_rs (off := f3_ + i * 12) (cs := colC y3) rfl Tw.kr (fun W hW => hc3 W (hW.sub (fun _ h => by cases h))) Tryd.underlying65 rfl Tw.kr) ?_
       refine vv (i := 13) (v := .bool true) rfl rfl rfl (yb_call (f := 90) (args := #[.agg (colC y2).toArray, .agg (colC y3).toArray]) Tw.kf fun W hW => (by obtain ⟨q7, d7, e7, n7, R7⟩ := lentCA_at HA.out hy2 hX hy3; rw [e7]; exact KeptColumn_any y3 q7 d7 (lr y3 (List.mem_of_getElem? hy3)) n7 W ((HR.out y3 (List.mem_of_getElem? hy3)).keep hW.1) (R7.keep hW.1))) ?_
       refine vm (i := 14) (v := .bool false) rfl rfl rfl ?_
       refine vm (i := 15) (v := .bool false) rfl rfl rfl ?_
       refine vm (i := 16) (v := .bool false) rfl rfl rfl ?_
       refine vm (i := 17) (v := .int .i64 ((i : Nat) : Int)) rfl rfl rfl ?_
       refine vm (i := 18) (v := .slice q l.length d) rfl rfl rfl ?_
       refine vp (i := 19) (v := .int .i64 ((l.length : Nat) : Int)) rfl rfl rfl (run_lenL (p := q) (cap := d) (n := l.length) rfl Tryd.underlying22 Tw.kr) ?_
       refine vp (i := 20) (v := .bool false) rfl rfl rfl (run_bin rfl (vx := (.int .i64 ((i : Nat) : Int))) (vy := (.int .i64 ((l.length : Nat) : Int))) Tw.kr Tw.kr fun w => bn_geq (decide_eq_true (by assumption)) w) ?_
       refine vm (i := 21) (v := .bool false) rfl rfl rfl ?_
       refine vn (i := 22) rfl rfl ?_
       refine vn (i := 23) rfl rfl ?_
       refine vn (i := 24) rfl rfl ?_
       refine vn (i := 25) rfl rfl ?_
       refine vn (i := 26) rfl rfl ?_
       refine vn (i := 27) rfl rfl ?_
       refine vn (i := 28) rfl rfl ?_
       refine vn (i := 29) rfl rfl ?_
       refine vn (i := 30) rfl rfl ?_
       refine vn (i := 31) rfl rfl ?_
       refine vn (i := 32) rfl rfl ?_
       refine vm (i := 33) (v := .bool false) rfl rfl rfl ?_
       refine vm (i := 34) (v := .bool false) rfl rfl rfl ?_
       refine wpV_done Tw.kr (fun W10 hW10 => ?_) _
       change Code.wp ..
       refine wp_cond_false rfl ?_
       refine wp_skip ?_
       change Code.wp ..
       refine wp_region_L _ hW10 ?_
       refine lm (v := .int .i64 ((i : Nat) : Int)) rfl rfl ?_
       refine lp (v := .int .i64 (((i + 1) : Nat) : Int)) rfl rfl (run_bin rfl (vx := (.int .i64 ((i : Nat) : Int))) (vy := (.int .i64 ((1 : Nat) : Int))) Tw.kr Tw.kr fun w => bn_add (z := (i + 1)) rfl (wr_i64 Tw.om) w) ?_
       refine lm (v := .int .i64 (((i + 1) : Nat) : Int)) rfl rfl ?_
       refine wpL_done (fun W11 hW11 => ?_)
       go_roundw
       case rel =>
         repeat apply Exists.intro
         exact ⟨⟨i + 1, Tw.om, rfl, (hW11.sub (fun p hp => by first | exact hp | (simp only [List.mem_cons, List.mem_append, List.nil_append, List.not_mem_nil, or_assoc, or_false, false_or] at hp ⊢ <;> grind)))⟩, rfl⟩
       case measure => (show l.length + 12 - (intOf (.int .i64 (((i + 1) : Nat) : Int))).toNat < l.length + 12 - (intOf (.int .i64 ((i : Nat) : Int))).toNat); simp only [intOf]; omega
end Go.Proofs.YtlinjngifacmoaaDoor
namespace Go.Proofs.YtlinjngifacmoaaDoor
open Go Go.RowKit Tw
set_option maxRecDepth 100000 in
set_option maxHeartbeats 4000000 in
theorem LentIntsL_any (l : List Int) (p : Option Addr) (c : Nat) (hl : l.length ≤ 17592186044403) (w : World) (hp : SLV w p (l.flatMap inC)) : Calls Tryd.prog 108 #[.slice p l.length c] w fun e w' => ∃ q d, e = .returned (.slice q l.length d) ∧ l.length + 12 ≤ d ∧ OutV w w' 3 1 (.slice q (l ++ mkL 12).length d) (l ++ mkL 12).length ((l ++ mkL 12).flatMap inC) ∧ Below w.heap.size w w' := by
 have HP := Lib.hid hp
 clear hp
 go_enter Tryd.func108, Tryd.ntmps108
 refine wp_seq ?_
 refine wp_region_L [] (KS.start w) ?_
 refine lm (v := .slice none 0 0) rfl rfl ?_
 refine wpL_done (fun W1 hW1 => ?_)
 change Code.wp ..
 refine wp_seq ?_
 refine wp_region_L _ hW1 ?_
 refine lm (v := .slice p l.length c) rfl rfl ?_
 refine lp (v := .int .i64 ((l.length : Nat) : Int)) rfl rfl (run_lenL (p := p) (cap := c) (n := l.length) rfl Tryd.underlying63 Tw.kr) ?_
 refine lp (v := .int .i64 (((l.length + 12) : Nat) : Int)) rfl rfl (run_bin rfl (vx := (.int .i64 ((l.length : Nat) : Int))) (vy := (.int .i64 ((12 : Nat) : Int))) Tw.kr Tw.kr fun w => bn_add (z := (l.length + 12)) rfl (wr_i64 Tw.om) w) ?_
 refine wpL_new (fun g => .slice (some ⟨g, 0, none⟩) 0 (l.length + 12)) (obi := .cells (madeCells (Value.cells (.int .i64 0)) ((l.length + 12) * 1)) 3 (0, 0)) rfl rfl (run_mk0L (c := (l.length + 12)) (z := (.int .i64 0)) (sz := 1) (b := 8) rfl Tryd.underlying63 Tw.kr (by decide) Tw.kr Tw.kr Tw.om) Tw.pf fun g1 Bg1 Fg1 => ?_
 refine lm (v := .slice (some ⟨g1, 0, none⟩) 0 (l.length + 12)) rfl rfl ?_
 refine wpL_done (fun W2 hW2 => ?_)
 change Code.wp ..
 refine wp_seq ?_
 refine wp_region_L _ hW2 ?_
 refine lm (v := .slice (some ⟨g1, 0, none⟩) 0 (l.length + 12)) rfl rfl ?_
 refine lm (v := .slice p l.length c) rfl rfl ?_
 have Om2 := (own_madeL (cells := inC) (c := (l.length + 12)) (E := 3) (z := (.int .i64 0)) Bg1 rfl Tw.om)
 refine wpL_g (AppO w 3 1 [] (0 + l.length) ((([] : List Int).flatMap inC) ++ (l.flatMap inC))) rfl rfl (app_anyL el_int (m := l.length) (news := (l.flatMap inC)) (y := .slice p l.length c) rfl Tw.kr Tw.kr (src_rl (c := c) Tryd.underlying63 inC_len inC_one (by decide) ((RL.base HP.out).mono (fun _ h => by cases h)) rfl) Om2 (fun p hp => by cases List.mem_singleton.1 hp; exact Tw.m0) (fun _ h => by cases h) Tw.om Tw.om) Tw.pf ?_
 rintro v3 Kl3 ⟨_, O3, N3, rfl⟩
 refine lm (v := v3) rfl rfl ?_
 refine wpL_done (fun W3 hW3 => ?_)
 change Code.wp ..
 refine wp_seq ?_
 refine wp_seq ?_
 refine wp_region_L _ hW3 ?_
 refine lm (v := .int .i64 0) rfl rfl ?_
 refine wpL_done (fun W4 hW4 => ?_)
 change Code.wp ..
 refine wp_block ?_
 go_loopw [4, 3] (fun u4 u3 wr => ∃ (i : Nat) (vo : Value) (Ko : List (Nat × Obj)), (i ≤ 12) ∧ (OwnL w 3 1 vo (l.length + i) ((l ++ mkL i).flatMap inC) Ko) ∧ u4 = .int .i64 ((i : Nat) : Int) ∧ vo = u3 ∧ KS w Ko wr) (fun u4 _ _ => 12 - (intOf u4).toNat)
 case atStart => exact ⟨0, v3, Kl3, (Nat.zero_le _), (by have h9 := O3; rw [List.flatMap_nil, List.nil_append, Nat.zero_add] at h9; rw [show l ++ mkL 0 = l from by simp [mkL]]; exact h9), rfl, rfl, (hW4.sub (fun p hp => by first | exact hp | (simp only [List.mem_cons, List.mem_append, List.nil_append, List.not_mem_nil, or_assoc, or_false, false_or] at hp ⊢ <;> grind)))⟩
 case round =>
   obtain ⟨i, vo, Ko, hi, hO, rfl, rfl, hL5⟩ := hrel
   refine wp_seq ?_
   refine wp_seq ?_
   refine wp_region_L _ hL5 ?_
   refine lm (v := .int .i64 ((i : Nat) : Int)) rfl rfl ?_
   refine lp (v := .bool (decide (i < 12))) rfl rfl (run_bin rfl (vx := (.int .i64 ((i : Nat) : Int))) (vy := (.int .i64 ((12 : Nat) : Int))) Tw.kr Tw.kr fun w => bn_lss rfl w) ?_
   refine wpL_done (fun W6 hW6 => ?_)
   change Code.wp ..
   cases hd1 : (decide (i < 12)) with
   | false =>
     have h1 : ¬ (i < 12) := of_decide_eq_false hd1
     clear hd1
     refine wp_cond_false rfl ?_
     refine wp_exit ?_
     change Code.wp ..
     refine wp_seq ?_
     refine wp_region_L _ hW6 ?_
     refine lm (v := vo) rfl rfl ?_
     refine lm (v := .slice p l.length c) rfl rfl ?_
     refine lp (v := .int .i64 ((l.length : Nat) : Int)) rfl rfl (run_lenL (p := p) (cap := c) (n := l.length) rfl Tryd.underlying63 Tw.kr) ?_
     have hi12 : i = 12 := by omega
     subst hi12
     have hO2 := own_app (cells := inC) (l' := l ++ mkL 12) hO rfl (by rw [List.length_append, mkL_len])
     obtain ⟨q9, d9, rfl, hd9, R9⟩ := own_rl hO2
     have hlen : (l ++ mkL 12).length = l.length + 12 := by rw [List.length_append, mkL_len]
     refine lp (v := .slice q9 l.length d9) rfl rfl (run_slt (kd := .i64) (j := l.length) (n := (l ++ mkL 12).length) (c := d9) (sz := 1) rfl Tryd.underlying63 Tw.kr Tw.kr Tw.kr Tw.om) ?_
     refine lm (v := .slice q9 l.length d9) rfl rfl ?_
     refine wpL_done (fun W7 hW7 => ?_)
     change Code.wp ..
     refine wp_ret ?_
     try simp only [inBlock_ret, then_ret]
     refine bodyPost_ret (v := .slice q9 l.length d9) ?_ rfl ?_
     · kernel_rfl
     · exact ⟨q9, d9, rfl, by omega, hO2.out (fun p hp => by simp only [List.mem_cons, List.mem_append, List.nil_append, List.not_mem_nil, or_assoc, or_false, false_or, hp, true_or, or_true]) hW7, hW7.1⟩
   | true =>
     have h1 : i < 12 := of_decide_eq_true hd1
     clear hd1
     refine wp_cond_true rfl ?_
     refine wp_skip ?_
     change Code.wp ..
     refine wp_seq ?_
     refine wp_block ?_
     refine wp_region_L _ hW6 ?_
     refine lm (v := vo) rfl rfl ?_
     refine lm (v := .int .i64 ((i : Nat) : Int)) rfl rfl ?_
     refine lv (v := .int .i64 (mkI i)) rfl rfl (yb_call (f := 79) (args := #[.int .i64 1, .int .i64 ((i : Nat) : Int)]) Tw.kf fun W hW => mark_any 1 ((i : Nat) : Int) Tw.om Tw.om W) ?_
     refine wpL_new (fun g => .slice (some ⟨g, 0, none⟩) 1 1) (obi := .cells #[.int .i64 (mkI i)] 3 (0, 0)) rfl rfl Tw.kf Tw.pf fun g5 Bg5 Fg5 => ?_
     obtain dj6_0 : Dk g5 Ko := Tw.dkf Fg5
     refine wpL_g (AppO w 3 1 [] ((l.length + i) + 1) (((l ++ mkL i).flatMap inC) ++ [.int .i64 (mkI i)])) rfl rfl (app_ownL el_int (m := 1) (c := 1) (news := [.int .i64 (mkI i)]) rfl Tw.kr Tw.kr Tw.m0 hO Tw.sc (fun _ h => by cases h) rfl (by simp [strV, Value.oneCell']) Tw.om Tw.om Tw.om) Tw.pf ?_
     rintro v7 Kl7 ⟨_, O7, N7, rfl⟩
     refine lm (v := v7) rfl rfl ?_
     refine wpL_done (fun W8 hW8 => ?_)
     change Code.wp ..
     refine wp_region_L _ hW8 ?_
     refine lm (v := .int .i64 ((i : Nat) : Int)) rfl rfl ?_
     refine lp (v := .int .i64 (((i + 1) : Nat) : Int)) rfl rfl (run_bin rfl (vx := (.int .i64 ((i : Nat) : Int))) (vy := (.int .i64 ((1 : Nat) : Int))) Tw.kr Tw.kr fun w => bn_add (z := (i + 1)) rfl (wr_i64 Tw.om) w) ?_
     refine lm (v := .int .i64 (((i + 1) : Nat) : Int)) rfl rfl ?_
     refine wpL_done (fun W9 hW9 => ?_)
     go_roundw
     case rel =>
       repeat apply Exists.intro
       exact ⟨⟨i + 1, v7, Kl7, Tw.om, (by have h9 := own_snoc (l' := l ++ mkL (i + 1)) O7 (by rw [mkL_s, List.append_assoc]); exact h9), rfl, rfl, (hW9.sub (fun p hp => by first | exact hp | (simp only [List.mem_cons, List.mem_append, List.nil_append, List.not_mem_nil, or_assoc, or_false, false_or] at hp ⊢ <;> grind)))⟩, rfl⟩
     case measure => (show 12 - (intOf (.int .i64 (((i + 1) : Nat) : Int))).toNat < 12 - (intOf (.int .i64 ((i : Nat) : Int))).toNat); simp only [intOf]; omega
set_option maxRecDepth 100000 in
set_option maxHeartbeats 4000000 in
theorem KeptIntsL_any (l : List Int) (p q : Option Addr) (c d : Nat) (hl : l.length ≤ 17592186044403) (hc : l.length + 12 ≤ c) (w : World) (hp : SLV w p ((l ++ mkL 12).flatMap inC)) (hq : SLV w q (l.flatMap inC)) : Calls Tryd.prog 109 #[.slice p l.length c, .slice q l.length d] w fun e w' => e = .returned (.bool true) ∧ Below w.heap.size w w' := by
 have HP := Lib.hid hp
 clear hp
 have HQ := Lib.hid hq
 clear hq
 have hlen : (l ++ mkL 12).length = l.length + 12 := by rw [List.length_append, mkL_len]
 go_enter Tryd.func109, Tryd.ntmps109
 refine wp_seq ?_
 refine wp_region_L [] (KS.start w) ?_
 refine lm (v := .bool false) rfl rfl ?_
 refine wpL_done (fun W1 hW1 => ?_)
 change Code.wp ..
 refine wp_seq ?_
 refine wp_seq ?_
 refine wp_region_L _ hW1 ?_
 refine lm (v := .slice p l.length c) rfl rfl ?_
 refine lp (v := .int .i64 ((l.length : Nat) : Int)) rfl rfl (run_lenL (p := p) (cap := c) (n := l.length) rfl Tryd.underlying63 Tw.kr) ?_
 refine lm (v := .slice q l.length d) rfl rfl ?_
 refine lp (v := .int .i64 ((l.length : Nat) : Int)) rfl rfl (run_lenL (p := q) (cap := d) (n := l.length) rfl Tryd.underlying63 Tw.kr) ?_
 refine lp (v := .bool false) rfl rfl (run_bin rfl (vx := (.int .i64 ((l.length : Nat) : Int))) (vy := (.int .i64 ((l.length : Nat) : Int))) Tw.kr Tw.kr fun w => bn_neq (decide_eq_true rfl) w) ?_
 refine wpL_done (fun W2 hW2 => ?_)
 change Code.wp ..
 refine wp_cond_false rfl ?_
 refine wp_skip ?_
 change Code.wp ..
 refine wp_seq ?_
 refine wp_region_L _ hW2 ?_
 refine lm (v := .slice p l.length c) rfl rfl ?_
 refine lm (v := .slice q l.length d) rfl rfl ?_
 refine lp (v := .int .i64 ((l.length : Nat) : Int)) rfl rfl (run_lenL (p := q) (cap := d) (n := l.length) rfl Tryd.underlying63 Tw.kr) ?_
 refine lp (v := .int .i64 (((l.length + 12) : Nat) : Int)) rfl rfl (run_bin rfl (vx := (.int .i64 ((l.length : Nat) : Int))) (vy := (.int .i64 ((12 : Nat) : Int))) Tw.kr Tw.kr fun w => bn_add (z := (l.length + 12)) rfl (wr_i64 Tw.om) w) ?_
 refine lp (v := .slice p (l.length + 12) c) rfl rfl (run_slt (kd := .i64) (j := (l.length + 12)) (n := l.length) (c := c) (sz := 1) rfl Tryd.underlying63 Tw.kr Tw.kr Tw.kr Tw.om) ?_
 refine lm (v := .slice p (l.length + 12) c) rfl rfl ?_
 refine wpL_done (fun W3 hW3 => ?_)
 change Code.wp ..
 refine wp_seq ?_
 refine wp_seq ?_
 refine wp_region_L _ hW3 ?_
 refine lm (v := .int .i64 0) rfl rfl ?_
 refine wpL_done (fun W4 hW4 => ?_)
 change Code.wp ..
 refine wp_block ?_
 go_loopw [6] (fun u6 wr => ∃ (i : Nat), (i ≤ l.length + 12) ∧ u6 = .int .i64 ((i : Nat) : Int) ∧ KS w [] wr) (fun u6 _ => l.length + 12 - (intOf u6).toNat)
 case atStart => exact ⟨0, (Nat.zero_le _), rfl, (hW4.sub (fun p hp => by first | exact hp | (simp only [List.mem_cons, List.mem_append, List.nil_append, List.not_mem_nil, or_assoc, or_false, false_or] at hp ⊢ <;> grind)))⟩
 case round =>
   obtain ⟨i, hi, rfl, hL5⟩ := hrel
   refine wp_seq ?_
   refine wp_seq ?_
   refine wp_region_L _ hL5 ?_
   refine lm (v := .int .i64 ((i : Nat) : Int)) rfl rfl ?_
   refine lm (v := .slice p (l.length + 12) c) rfl rfl ?_
   refine lp (v := .int .i64 (((l.length + 12) : Nat) : Int)) rfl rfl (run_lenL (p := p) (cap := c) (n := (l.length + 12)) rfl Tryd.underlying63 Tw.kr) ?_
   refine lp (v := .bool (decide (i < (l.length + 12)))) rfl rfl (run_bin rfl (vx := (.int .i64 ((i : Nat) : Int))) (vy := (.int .i64 (((l.length + 12) : Nat) : Int))) Tw.kr Tw.kr fun w => bn_lss rfl w) ?_
   refine wpL_done (fun W6 hW6 => ?_)
   change Code.wp ..
   cases hd1 : (decide (i < (l.length + 12))) with
   | false =>
     have h1 : ¬ (i < (l.length + 12)) := of_decide_eq_false hd1
     clear hd1
     refine wp_cond_false rfl ?_
     refine wp_exit ?_
     change Code.wp ..
     refine wp_seq ?_
     refine wp_region_L _ hW6 ?_
     refine lm (v := .bool true) rfl rfl ?_
     refine wpL_done (fun W7 hW7 => ?_)
     change Code.wp ..
     refine wp_ret ?_
     try simp only [inBlock_ret, then_ret]
     refine bodyPost_ret (v := .bool true) ?_ rfl ?_
     · kernel_rfl
     · exact ⟨rfl, hW7.1⟩
   | true =>
     have h1 : i < (l.length + 12) := of_decide_eq_true hd1
     clear hd1
     refine wp_cond_true rfl ?_
     refine wp_skip ?_
     change Code.wp ..
     refine wp_seq ?_
     refine wp_block ?_
     refine wp_seq ?_
     refine wp_region_V _ Tw.kr hW6 ?_
     refine vm (i := 0) (v := .int .i64 ((i : Nat) : Int)) rfl rfl rfl ?_
     refine vm (i := 1) (v := .slice q l.length d) rfl rfl rfl ?_
     refine vp (i := 2) (v := .int .i64 ((l.length : Nat) : Int)) rfl rfl rfl (run_lenL (p := q) (cap := d) (n := l.length) rfl Tryd.underlying63 Tw.kr) ?_
     refine vp (i := 3) (v := .bool (decide (i < l.length))) rfl rfl rfl (run_bin rfl (vx := (.int .i64 ((i : Nat) : Int))) (vy := (.int .i64 ((l.length : Nat) : Int))) Tw.kr Tw.kr fun w => bn_lss rfl w) ?_
     refine vm (i := 4) (v := .bool (decide (i < l.length))) rfl rfl rfl ?_
     cases hd2 : (decide (i < l.length)) with
     | false =>
       have h2 : ¬ (i < l.length) := of_decide_eq_false hd2
       clear hd2
       refine vn (i := 5) rfl rfl ?_
       refine vn (i := 6) rfl rfl ?_
       refine vn (i := 7) rfl rfl ?_
       refine vn (i := 8) rfl rfl ?_
       refine vn (i := 9) rfl rfl ?_
       refine vn (i := 10) rfl rfl ?_
       refine vn (i := 11) rfl rfl ?_
       refine vn (i := 12) rfl rfl ?_
       refine vn (i := 13) rfl rfl ?_
       refine vn (i := 14) rfl rfl ?_
       refine vm (i := 15) (v := .bool false) rfl rfl rfl ?_
       refine vm (i := 16) (v := .bool false) rfl rfl rfl ?_
       refine vm (i := 17) (v := .int .i64 ((i : Nat) : Int)) rfl rfl rfl ?_
       refine vm (i := 18) (v := .slice q l.length d) rfl rfl rfl ?_
       refine vp (i := 19) (v := .int .i64 ((l.length : Nat) : Int)) rfl rfl rfl (run_lenL (p := q) (cap := d) (n := l.length) rfl Tryd.underlying63 Tw.kr) ?_
       refine vp (i := 20) (v := .bool true) rfl rfl rfl (run_bin rfl (vx := (.int .i64 ((i : Nat) : Int))) (vy := (.int .i64 ((l.length : Nat) : Int))) Tw.kr Tw.kr fun w => bn_geq (decide_eq_false (by assumption)) w) ?_
       refine vm (i := 21) (v := .bool true) rfl rfl rfl ?_
       refine vm (i := 22) (v := .slice p (l.length + 12) c) rfl rfl rfl ?_
       refine vm (i := 23) (v := .int .i64 ((i : Nat) : Int)) rfl rfl rfl ?_
       obtain ⟨y1, g1_, f1_, hy1, hp1, hc1⟩ := RL.at (RL.base HP.out) inC_len (by decide) (hW6.sub (fun _ h => by cases h)) (k := i) Tw.om
       refine vp (i := 24) (v := .pointer (some ⟨g1_, f1_ + i * 1, none⟩)) rfl rfl rfl (run_idxQ (p := p) (cap := c) (n := (l.length + 12)) (j := .i64) (k := i) (sz := 1) rfl Tryd.underlying63 Tw.kr Tw.kr hp1 Tw.kr Tw.om) ?_
       refine vb (i := 25) (v := .int .i64 y1) rfl rfl rfl (yb_rf (v := .int .i64 y1) rfl Tw.kr (fun W hW => hc1 W (hW.sub (fun _ h => by cases h)) 0 _ rfl) Tryd.underlying3 rfl) ?_
       refine vm (i := 26) (v := .int .i64 ((i : Nat) : Int)) rfl rfl rfl ?_
       refine vm (i := 27) (v := .slice q l.length d) rfl rfl rfl ?_
       refine vp (i := 28) (v := .int .i64 ((l.length : Nat) : Int)) rfl rfl rfl (run_lenL (p := q) (cap := d) (n := l.length) rfl Tryd.underlying63 Tw.kr) ?_
       refine vp (i := 29) (v := .int .i64 (((i - l.length) : Nat) : Int)) rfl rfl rfl (run_bin rfl (vx := (.int .i64 ((i : Nat) : Int))) (vy := (.int .i64 ((l.length : Nat) : Int))) Tw.kr Tw.kr fun w => bn_sub (z := (i - l.length)) rfl Tw.om (wr_i64 Tw.om) w) ?_
       refine vv (i := 30) (v := .int .i64 (mkI (i - l.length))) rfl rfl rfl (yb_call (f := 79) (args := #[.int .i64 1, .int .i64 (((i - l.length) : Nat) : Int)]) Tw.kf fun W hW => mark_any 1 (((i - l.length) : Nat) : Int) Tw.om Tw.om W) ?_
       refine vp (i := 31) (v := .bool (decide (y1 = (mkI (i - l.length))))) rfl rfl rfl (run_bin rfl (vx := (.int .i64 y1)) (vy := (.int .i64 (mkI (i - l.length)))) Tw.kr Tw.kr fun w => bi_eql rfl w) ?_
       refine vp (i := 32) (v := .bool (!(decide (y1 = (mkI (i - l.length)))))) rfl rfl rfl (run_un rfl Tw.kr fun w => un_not w) ?_
       refine vm (i := 33) (v := .bool (!(decide (y1 = (mkI (i - l.length)))))) rfl rfl rfl ?_
       refine vm (i := 34) (v := .bool (!(decide (y1 = (mkI (i - l.length)))))) rfl rfl rfl ?_
       refine wpV_done Tw.kr (fun W8 hW8 => ?_) _
       change Code.wp ..
       cases hd3 : (decide (y1 = (mkI (i - l.length)))) with
       | false =>
         have h3 : ¬ (y1 = (mkI (i - l.length))) := of_decide_eq_false hd3
         clear hd3
         exact absurd (by rw [List.getElem?_append_right Tw.om, mkL_at Tw.om] at hy1; exact (Option.some.inj hy1).symm) h3
       | true =>
         have h3 : y1 = (mkI (i - l.length)) := of_decide_eq_true hd3
         clear hd3
         refine wp_cond_false rfl ?_
         refine wp_skip ?_
         change Code.wp ..
         refine wp_region_L _ hW8 ?_
         refine lm (v := .int .i64 ((i : Nat) : Int)) rfl rfl ?_
         refine lp (v := .int .i64 (((i + 1) : Nat) : Int)) rfl rfl (run_bin rfl (vx := (.int .i64 ((i : Nat) : Int))) (vy := (.int .i64 ((1 : Nat) : Int))) Tw.kr Tw.kr fun w => bn_add (z := (i + 1)) rfl (wr_i64 Tw.om) w) ?_
         refine lm (v := .int .i64 (((i + 1) : Nat) : Int)) rfl rfl ?_
         refine wpL_done (fun W9 hW9 => ?_)
         go_roundw
         case rel =>
           repeat apply Exists.intro
           exact ⟨⟨i + 1, Tw.om, rfl, (hW9.sub (fun p hp => by first | exact hp | (simp only [List.mem_cons, List.mem_append, List.nil_append, List.not_mem_nil, or_assoc, or_false, false_or] at hp ⊢ <;> grind)))⟩, rfl⟩
         case measure => (show l.length + 12 - (intOf (.int .i64 (((i + 1) : Nat) : Int))).toNat < l.length + 12 - (intOf (.int .i64 ((i : Nat) : Int))).toNat); simp only [intOf]; omega
     | true =>
       have h2 : i < l.length := of_decide_eq_true hd2
       clear hd2
       refine vm (i := 5) (v := .slice p (l.length + 12) c) rfl rfl rfl ?_
       refine vm (i := 6) (v := .int .i64 ((i : Nat) : Int)) rfl rfl rfl ?_
       obtain ⟨y2, g2_, f2_, hy2, hp2, hc2⟩ := RL.at (RL.base HP.out) inC_len (by decide) (hW6.sub (fun _ h => by cases h)) (k := i) Tw.om
       refine vp (i := 7) (v := .pointer (some ⟨g2_, f2_ + i * 1, none⟩)) rfl rfl rfl (run_idxQ (p := p) (cap := c) (n := (l.length + 12)) (j := .i64) (k := i) (sz := 1) rfl Tryd.underlying63 Tw.kr Tw.kr hp2 Tw.kr Tw.om) ?_
       refine vb (i := 8) (v := .int .i64 y2) rfl rfl rfl (yb_rf (v := .int .i64 y2) rfl Tw.kr (fun W hW => hc2 W (hW.sub (fun _ h => by cases h)) 0 _ rfl) Tryd.underlying3 rfl) ?_
       refine vm (i := 9) (v := .slice q l.length d) rfl rfl rfl ?_
       refine vm (i := 10) (v := .int .i64 ((i : Nat) : Int)) rfl rfl rfl ?_
       obtain ⟨y3, g3_, f3_, hy3, hp3, hc3⟩ := RL.at (RL.base HQ.out) inC_len (by decide) (hW6.sub (fun _ h => by cases h)) (k := i) Tw.om
       refine vp (i := 11) (v := .pointer (some ⟨g3_, f3_ + i * 1, none⟩)) rfl rfl rfl (run_idxQ (p := q) (cap := d) (n := l.length) (j := .i64) (k := i) (sz := 1) rfl Tryd.underlying63 Tw.kr Tw.kr hp3 Tw.kr Tw.om) ?_
       refine vb (i := 12) (v := .int .i64 y3) rfl rfl rfl (yb_rf (v := .int .i64 y3) rfl Tw.kr (fun W hW => hc3 W (hW.sub (fun _ h => by cases h)) 0 _ rfl) Tryd.underlying3 rfl) ?_
       refine vp (i := 13) (v := .bool (decide (y2 = y3))) rfl rfl rfl (run_bin rfl (vx := (.int .i64 y2)) (vy := (.int .i64 y3)) Tw.kr Tw.kr fun w => bi_eql rfl w) ?_
       refine vp (i := 14) (v := .bool (!(decide (y2 = y3)))) rfl rfl rfl (run_un rfl Tw.kr fun w => un_not w) ?_
       refine vm (i := 15) (v := .bool (!(decide (y2 = y3)))) rfl rfl rfl ?_
       refine vm (i := 16) (v := .bool (!(decide (y2 = y3)))) rfl rfl rfl ?_
       cases hd4 : (decide (y2 = y3)) with
       | false =>
         have h4 : ¬ (y2 = y3) := of_decide_eq_false hd4
         clear hd4
         exact absurd (by rw [List.getElem?_append_left Tw.om] at hy2; rw [hy2] at hy3; exact Option.some.inj hy3) h4
       | true =>
         have h4 : y2 = y3 := of_decide_eq_true hd4
         clear hd4
         refine vm (i := 17) (v := .int .i64 ((i : Nat) : Int)) rfl rfl rfl ?_
         refine vm (i := 18) (v := .slice q l.length d) rfl rfl rfl ?_
         refine vp (i := 19) (v := .int .i64 ((l.length : Nat) : Int)) rfl rfl rfl (run_lenL (p := q) (cap := d) (n := l.length) rfl Tryd.underlying63 Tw.kr) ?_
         refine vp (i := 20) (v := .bool false) rfl rfl rfl (run_bin rfl (vx := (.int .i64 ((i : Nat) : Int))) (vy := (.int .i64 ((l.length : Nat) : Int))) Tw.kr Tw.kr fun w => bn_geq (decide_eq_true (by assumption)) w) ?_
         refine vm (i := 21) (v := .bool false) rfl rfl rfl ?_
         refine vn (i := 22) rfl rfl ?_
         refine vn (i := 23) rfl rfl ?_
         refine vn (i := 24) rfl rfl ?_
         refine vn (i := 25) rfl rfl ?_
         refine vn (i := 26) rfl rfl ?_
         refine vn (i := 27) rfl rfl ?_
         refine vn (i := 28) rfl rfl ?_
         refine vn (i := 29) rfl rfl ?_
         refine vn (i := 30) rfl rfl ?_
         refine vn (i := 31) rfl rfl ?_
         refine vn (i := 32) rfl rfl ?_
         refine vm (i := 33) (v := .bool false) rfl rfl rfl ?_
         refine vm (i := 34) (v := .bool false) rfl rfl rfl ?_
         refine wpV_done Tw.kr (fun W10 hW10 => ?_) _
         change Code.wp ..
         refine wp_cond_false rfl ?_
         refine wp_skip ?_
         change Code.wp ..
         refine wp_region_L _ hW10 ?_
         refine lm (v := .int .i64 ((i : Nat) : Int)) rfl rfl ?_
         refine lp (v := .int .i64 (((i + 1) : Nat) : Int)) rfl rfl (run_bin rfl (vx := (.int .i64 ((i : Nat) : Int))) (vy := (.int .i64 ((1 : Nat) : Int))) Tw.kr Tw.kr fun w => bn_add (z := (i + 1)) rfl (wr_i64 Tw.om) w) ?_
         refine lm (v := .int .i64 (((i + 1) : Nat) : Int)) rfl rfl ?_
         refine wpL_done (fun W11 hW11 => ?_)
         go_roundw
         case rel =>
           repeat apply Exists.intro
           exact ⟨⟨i + 1, Tw.om, rfl, (hW11.sub (fun p hp => by first | exact hp | (simp only [List.mem_cons, List.mem_append, List.nil_append, List.not_mem_nil, or_assoc, or_false, false_or] at hp ⊢ <;> grind)))⟩, rfl⟩
         case measure => (show l.length + 12 - (intOf (.int .i64 (((i + 1) : Nat) : Int))).toNat < l.length + 12 - (intOf (.int .i64 ((i : Nat) : Int))).toNat); simp only [intOf]; omega
set_option maxRecDepth 100000 in
set_option maxHeartbeats 4000000 in
theorem SameIntsL_any (l m : List Int) (p q : Option Addr) (c d : Nat) (hl : l.length ≤ 17592186044403) (w : World) (hp : SLV w p (l.flatMap inC)) (hq : SLV w q (m.flatMap inC)) : Calls Tryd.prog 110 #[.slice p l.length c, .slice q m.length d] w fun e w' => e = .returned (.bool (decide (l = m))) ∧ Below w.heap.size w w' := by
 have HP := Lib.hid hp
 clear hp
 have HQ := Lib.hid hq
 clear hq
 go_enter Tryd.func110, Tryd.ntmps110
 refine wp_seq ?_
 refine wp_region_L [] (KS.start w) ?_
 refine lm (v := .bool false) rfl rfl ?_
 refine wpL_done (fun W1 hW1 => ?_)
 change Code.wp ..
 refine wp_seq ?_
 refine wp_seq ?_
 refine wp_region_L _ hW1 ?_
 refine lm (v := .slice p l.length c) rfl rfl ?_
 refine lp (v := .int .i64 ((l.length : Nat) : Int)) rfl rfl (run_lenL (p := p) (cap := c) (n := l.length) rfl Tryd.underlying63 Tw.kr) ?_
 refine lm (v := .slice q m.length d) rfl rfl ?_
 refine lp (v := .int .i64 ((m.length : Nat) : Int)) rfl rfl (run_lenL (p := q) (cap := d) (n := m.length) rfl Tryd.underlying63 Tw.kr) ?_
 refine lp (v := .bool (!(decide (l.length = m.length)))) rfl rfl (run_bin rfl (vx := (.int .i64 ((l.length : Nat) : Int))) (vy := (.int .i64 ((m.length : Nat) : Int))) Tw.kr Tw.kr fun w => bn_neq rfl w) ?_
 refine wpL_done (fun W2 hW2 => ?_)
 change Code.wp ..
 cases hd1 : (decide (l.length = m.length)) with
 | false =>
   have h1 : ¬ (l.length = m.length) := of_decide_eq_false hd1
   clear hd1
   refine wp_cond_true rfl ?_
   refine wp_seq ?_
   refine wp_region_L _ hW2 ?_
   refine lm (v := .bool false) rfl rfl ?_
   refine wpL_done (fun W3 hW3 => ?_)
   change Code.wp ..
   refine wp_ret ?_
   try simp only [inBlock_ret, then_ret]
   refine bodyPost_ret (v := .bool false) ?_ rfl ?_
   · kernel_rfl
   · exact ⟨(bool_is (by rw [eq_comm, decide_eq_false_iff_not]; exact ne_len h1)), hW3.1⟩
 | true =>
   have h1 : l.length = m.length := of_decide_eq_true hd1
   clear hd1
   refine wp_cond_false rfl ?_
   refine wp_skip ?_
   change Code.wp ..
   refine wp_seq ?_
   refine wp_seq ?_
   refine wp_region_L _ hW2 ?_
   refine lm (v := .int .i64 0) rfl rfl ?_
   refine wpL_done (fun W4 hW4 => ?_)
   change Code.wp ..
   refine wp_block ?_
   go_loopw [5] (fun u5 wr => ∃ (k : Nat), (k ≤ l.length) ∧ (l.take k = m.take k) ∧ u5 = .int .i64 ((k : Nat) : Int) ∧ KS w [] wr) (fun u5 _ => l.length - (intOf u5).toNat)
   case atStart => exact ⟨0, (Nat.zero_le _), rfl, rfl, (hW4.sub (fun p hp => by first | exact hp | (simp only [List.mem_cons, List.mem_append, List.nil_append, List.not_mem_nil, or_assoc, or_false, false_or] at hp ⊢ <;> grind)))⟩
   case round =>
     obtain ⟨k, hk, hT, rfl, hL5⟩ := hrel
     refine wp_seq ?_
     refine wp_seq ?_
     refine wp_region_L _ hL5 ?_
     refine lm (v := .int .i64 ((k : Nat) : Int)) rfl rfl ?_
     refine lm (v := .slice p l.length c) rfl rfl ?_
     refine lp (v := .int .i64 ((l.length : Nat) : Int)) rfl rfl (run_lenL (p := p) (cap := c) (n := l.length) rfl Tryd.underlying63 Tw.kr) ?_
     refine lp (v := .bool (decide (k < l.length))) rfl rfl (run_bin rfl (vx := (.int .i64 ((k : Nat) : Int))) (vy := (.int .i64 ((l.length : Nat) : Int))) Tw.kr Tw.kr fun w => bn_lss rfl w) ?_
     refine wpL_done (fun W6 hW6 => ?_)
     change Code.wp ..
     cases hd2 : (decide (k < l.length)) with
     | false =>
       have h2 : ¬ (k < l.length) := of_decide_eq_false hd2
       clear hd2
       refine wp_cond_false rfl ?_
       refine wp_exit ?_
       change Code.wp ..
       refine wp_seq ?_
       refine wp_region_L _ hW6 ?_
       refine lm (v := .bool true) rfl rfl ?_
       refine wpL_done (fun W7 hW7 => ?_)
       change Code.wp ..
       refine wp_ret ?_
       try simp only [inBlock_ret, then_ret]
       refine bodyPost_ret (v := .bool true) ?_ rfl ?_
       · kernel_rfl
       · exact ⟨(bool_is (by rw [eq_comm, decide_eq_true_iff]; exact eq_of_take hT h2 h1)), hW7.1⟩
     | true =>
       have h2 : k < l.length := of_decide_eq_true hd2
       clear hd2
       refine wp_cond_true rfl ?_
       refine wp_skip ?_
       change Code.wp ..
       refine wp_seq ?_
       refine wp_block ?_
       refine wp_seq ?_
       refine wp_region_V _ Tw.kr hW6 ?_
       refine vm (i := 0) (v := .slice p l.length c) rfl rfl rfl ?_
       refine vm (i := 1) (v := .int .i64 ((k : Nat) : Int)) rfl rfl rfl ?_
       obtain ⟨y1, g1_, f1_, hy1, hp1, hc1⟩ := RL.at (RL.base HP.out) inC_len (by decide) (hW6.sub (fun _ h => by cases h)) (k := k) Tw.om
       refine vp (i := 2) (v := .pointer (some ⟨g1_, f1_ + k * 1, none⟩)) rfl rfl rfl (run_idxQ (p := p) (cap := c) (n := l.length) (j := .i64) (k := k) (sz := 1) rfl Tryd.underlying63 Tw.kr Tw.kr hp1 Tw.kr Tw.om) ?_
       refine vb (i := 3) (v := .int .i64 y1) rfl rfl rfl (yb_rf (v := .int .i64 y1) rfl Tw.kr (fun W hW => hc1 W (hW.sub (fun _ h => by cases h)) 0 _ rfl) Tryd.underlying3 rfl) ?_
       refine vm (i := 4) (v := .slice q m.length d) rfl rfl rfl ?_
       refine vm (i := 5) (v := .int .i64 ((k : Nat) : Int)) rfl rfl rfl ?_
       obtain ⟨y2, g2_, f2_, hy2, hp2, hc2⟩ := RL.at (RL.base HQ.out) inC_len (by decide) (hW6.sub (fun _ h => by cases h)) (k := k) Tw.om
       refine vp (i := 6) (v := .pointer (some ⟨g2_, f2_ + k * 1, none⟩)) rfl rfl rfl (run_idxQ (p := q) (cap := d) (n := m.length) (j := .i64) (k := k) (sz := 1) rfl Tryd.underlying63 Tw.kr Tw.kr hp2 Tw.kr Tw.om) ?_
       refine vb (i := 7) (v := .int .i64 y2) rfl rfl rfl (yb_rf (v := .int .i64 y2) rfl Tw.kr (fun W hW => hc2 W (hW.sub (fun _ h => by cases h)) 0 _ rfl) Tryd.underlying3 rfl) ?_
       refine vp (i := 8) (v := .bool (!(decide (y1 = y2)))) rfl rfl rfl (run_bin rfl (vx := (.int .i64 y1)) (vy := (.int .i64 y2)) Tw.kr Tw.kr fun w => bi_neq rfl w) ?_
       refine wpV_done Tw.kr (fun W8 hW8 => ?_) _
       change Code.wp ..
       cases hd3 : (decide (y1 = y2)) with
       | false =>
         have h3 : ¬ (y1 = y2) := of_decide_eq_false hd3
         clear hd3
         refine wp_cond_true rfl ?_
         refine wp_seq ?_
         refine wp_region_L _ hW8 ?_
         refine lm (v := .bool false) rfl rfl ?_
         refine wpL_done (fun W9 hW9 => ?_)
         change Code.wp ..
         refine wp_ret ?_
         try simp only [inBlock_ret, then_ret]
         refine bodyPost_ret (v := .bool false) ?_ rfl ?_
         · kernel_rfl
         · exact ⟨(bool_is (by rw [eq_comm, decide_eq_false_iff_not]; exact ne_at hy1 hy2 h3)), hW9.1⟩
       | true =>
         have h3 : y1 = y2 := of_decide_eq_true hd3
         clear hd3
         refine wp_cond_false rfl ?_
         refine wp_skip ?_
         change Code.wp ..
         refine wp_region_L _ hW8 ?_
         refine lm (v := .int .i64 ((k : Nat) : Int)) rfl rfl ?_
         refine lp (v := .int .i64 (((k + 1) : Nat) : Int)) rfl rfl (run_bin rfl (vx := (.int .i64 ((k : Nat) : Int))) (vy := (.int .i64 ((1 : Nat) : Int))) Tw.kr Tw.kr fun w => bn_add (z := (k + 1)) rfl (wr_i64 Tw.om) w) ?_
         refine lm (v := .int .i64 (((k + 1) : Nat) : Int)) rfl rfl ?_
         refine wpL_done (fun W10 hW10 => ?_)
         go_roundw
         case rel =>
           repeat apply Exists.intro
           exact ⟨⟨k + 1, Tw.om, (take_snoc_eq hT hy1 hy2 h3), rfl, (hW10.sub (fun p hp => by first | exact hp | (simp only [List.mem_cons, List.mem_append, List.nil_append, List.not_mem_nil, or_assoc, or_false, false_or] at hp ⊢ <;> grind)))⟩, rfl⟩
         case measure => (show l.length - (intOf (.int .i64 (((k + 1) : Nat) : Int))).toNat < l.length - (intOf (.int .i64 ((k : Nat) : Int))).toNat); simp only [intOf]; omega
end Go.Proofs.YtlinjngifacmoaaDoor
/- What came in: columns, covers, rows, frames, tanks. -/
namespace Go.Proofs.YtlinjngifacmoaaDoor
open Go Go.RowKit Tw Go.ChangeShapes Go.WideShapes
theorem opens_in : OpensW Tryd.prog 3 inC (fun _ n => -9223372036854775808 ≤ n ∧ n ≤ 9223372036854775807) := by
 intro H enc w base sp held fuel cs x h
 obtain ⟨n, rfl, h1, h2⟩ := fld_int Tryd.underlying3 h
 exact ⟨n, rfl, h1, h2⟩
abbrev intOk (_ : World) (n : Int) : Prop := -9223372036854775808 ≤ n ∧ n ≤ 9223372036854775807
structure Tk where
 kilos : Int
 x : Int
 y : Int
 z : Int
 surface : Int
 steps : List Int
 sp : Option Addr
 sc : Nat
structure N5 where
 a : Int
 b : Int
 c : Int
 d : Int
 e : Int
def tkC (t : Tk) : List Value := [.int .i64 t.kilos, .int .i64 t.x, .int .i64 t.y, .int .i64 t.z, .int .i64 t.surface, .slice t.sp t.steps.length t.sc]
def n5C (r : N5) : List Value := [.int .i64 r.a, .int .i64 r.b, .int .i64 r.c, .int .i64 r.d, .int .i64 r.e]
theorem tkC_len (t : Tk) : (tkC t).length = 6 := rfl
theorem n5C_len (r : N5) : (n5C r).length = 5 := rfl
def n5Ok (w : World) (r : N5) : Prop := intOk w r.a ∧ intOk w r.b ∧ intOk w r.c ∧ intOk w r.d ∧ intOk w r.e
set_option maxHeartbeats 1000000 in
theorem opens_row : OpensW Tryd.prog 123 n5C n5Ok := by
 intro H enc w base sp held fuel cs x h
 obtain ⟨hl, hf⟩ := trod_fld Tryd.underlying123 h
 have ci : Tryd.prog.cellsOf 3 = 1 := by kernel_rfl
 have cn : Tryd.prog.cellsOf 123 = 5 := by kernel_rfl
 rw [cn] at hl
 obtain ⟨v0, v1, v2, v3, v4, rfl⟩ : ∃ v0 v1 v2 v3 v4, cs = [v0, v1, v2, v3, v4] := by
   rcases cs with _ | ⟨v0, _ | ⟨v1, _ | ⟨v2, _ | ⟨v3, _ | ⟨v4, _ | ⟨vx, cs⟩⟩⟩⟩⟩⟩ <;> simp at hl
   exact ⟨v0, v1, v2, v3, v4, rfl⟩
 have key : ∀ (i : Nat) (f : Field) (v : Value), (#[v0, v1, v2, v3, v4] : Array Value)[i]? = some v → f.type = 3 → f.offset = i → (∃ n y, DataW.trod enc Tryd.prog w base sp held n f.type ((([v0, v1, v2, v3, v4] : List Value).drop f.offset).take (Tryd.prog.cellsOf f.type)) = some y) → ∃ n : Int, v = .int .i64 n ∧ -9223372036854775808 ≤ n ∧ n ≤ 9223372036854775807 := by
   intro i f v hv ht ho ⟨n, y, hy⟩
   rw [ht, ci, ho] at hy
   obtain ⟨z, hz, hz1, hz2⟩ := fld_int (P := Tryd.prog) Tryd.underlying3 hy
   have hv2 : ([v0, v1, v2, v3, v4] : List Value)[i]? = some v := by simpa using hv
   obtain ⟨hi, hvi⟩ := List.getElem?_eq_some_iff.1 hv2
   rw [List.drop_eq_getElem_cons hi, hvi] at hz
   have hz0 : v = .int .i64 z := by simpa using hz
   have m1 : IntKind.i64.min = -9223372036854775808 := by decide
   have m2 : IntKind.i64.max = 9223372036854775807 := by decide
   rw [m1] at hz1; rw [m2] at hz2
   exact ⟨z, hz0, hz1, hz2⟩
 obtain ⟨n0, e0, a0, b0⟩ := key 0 _ v0 rfl rfl rfl (hf 0 _ rfl)
 subst e0
 obtain ⟨n1, e1, a1, b1⟩ := key 1 _ v1 rfl rfl rfl (hf 1 _ rfl)
 subst e1
 obtain ⟨n2, e2, a2, b2⟩ := key 2 _ v2 rfl rfl rfl (hf 2 _ rfl)
 subst e2
 obtain ⟨n3, e3, a3, b3⟩ := key 3 _ v3 rfl rfl rfl (hf 3 _ rfl)
 subst e3
 obtain ⟨n4, e4, a4, b4⟩ := key 4 _ v4 rfl rfl rfl (hf 4 _ rfl)
 subst e4
 exact ⟨⟨n0, n1, n2, n3, n4⟩, rfl, ⟨a0, b0⟩, ⟨a1, b1⟩, ⟨a2, b2⟩, ⟨a3, b3⟩, ⟨a4, b4⟩⟩
set_option maxHeartbeats 1000000 in
theorem opens_frame : OpensW Tryd.prog 126 n5C n5Ok := by
 intro H enc w base sp held fuel cs x h
 obtain ⟨hl, hf⟩ := trod_fld Tryd.underlying126 h
 have ci : Tryd.prog.cellsOf 3 = 1 := by kernel_rfl
 have cn : Tryd.prog.cellsOf 126 = 5 := by kernel_rfl
 rw [cn] at hl
 obtain ⟨v0, v1, v2, v3, v4, rfl⟩ : ∃ v0 v1 v2 v3 v4, cs = [v0, v1, v2, v3, v4] := by
   rcases cs with _ | ⟨v0, _ | ⟨v1, _ | ⟨v2, _ | ⟨v3, _ | ⟨v4, _ | ⟨vx, cs⟩⟩⟩⟩⟩⟩ <;> simp at hl
   exact ⟨v0, v1, v2, v3, v4, rfl⟩
 have key : ∀ (i : Nat) (f : Field) (v : Value), (#[v0, v1, v2, v3, v4] : Array Value)[i]? = some v → f.type = 3 → f.offset = i → (∃ n y, DataW.trod enc Tryd.prog w base sp held n f.type ((([v0, v1, v2, v3, v4] : List Value).drop f.offset).take (Tryd.prog.cellsOf f.type)) = some y) → ∃ n : Int, v = .int .i64 n ∧ -9223372036854775808 ≤ n ∧ n ≤ 9223372036854775807 := by
   intro i f v hv ht ho ⟨n, y, hy⟩
   rw [ht, ci, ho] at hy
   obtain ⟨z, hz, hz1, hz2⟩ := fld_int (P := Tryd.prog) Tryd.underlying3 hy
   have hv2 : ([v0, v1, v2, v3, v4] : List Value)[i]? = some v := by simpa using hv
   obtain ⟨hi, hvi⟩ := List.getElem?_eq_some_iff.1 hv2
   rw [List.drop_eq_getElem_cons hi, hvi] at hz
   have hz0 : v = .int .i64 z := by simpa using hz
   have m1 : IntKind.i64.min = -9223372036854775808 := by decide
   have m2 : IntKind.i64.max = 9223372036854775807 := by decide
   rw [m1] at hz1; rw [m2] at hz2
   exact ⟨z, hz0, hz1, hz2⟩
 obtain ⟨n0, e0, a0, b0⟩ := key 0 _ v0 rfl rfl rfl (hf 0 _ rfl)
 subst e0
 obtain ⟨n1, e1, a1, b1⟩ := key 1 _ v1 rfl rfl rfl (hf 1 _ rfl)
 subst e1
 obtain ⟨n2, e2, a2, b2⟩ := key 2 _ v2 rfl rfl rfl (hf 2 _ rfl)
 subst e2
 obtain ⟨n3, e3, a3, b3⟩ := key 3 _ v3 rfl rfl rfl (hf 3 _ rfl)
 subst e3
 obtain ⟨n4, e4, a4, b4⟩ := key 4 _ v4 rfl rfl rfl (hf 4 _ rfl)
 subst e4
 exact ⟨⟨n0, n1, n2, n3, n4⟩, rfl, ⟨a0, b0⟩, ⟨a1, b1⟩, ⟨a2, b2⟩, ⟨a3, b3⟩, ⟨a4, b4⟩⟩
structure N4 where
 a : Int
 b : Int
 c : Int
 d : Int
def n4C (r : N4) : List Value := [.int .i64 r.a, .int .i64 r.b, .int .i64 r.c, .int .i64 r.d]
def n4Ok (w : World) (r : N4) : Prop := intOk w r.a ∧ intOk w r.b ∧ intOk w r.c ∧ intOk w r.d
set_option maxHeartbeats 1000000 in
theorem opens_light : OpensW Tryd.prog 25 n4C n4Ok := by
 intro H enc w base sp held fuel cs x h
 obtain ⟨hl, hf⟩ := trod_fld Tryd.underlying25 h
 have ci : Tryd.prog.cellsOf 3 = 1 := by kernel_rfl
 have cn : Tryd.prog.cellsOf 25 = 4 := by kernel_rfl
 rw [cn] at hl
 obtain ⟨v0, v1, v2, v3, rfl⟩ : ∃ v0 v1 v2 v3, cs = [v0, v1, v2, v3] := by
   rcases cs with _ | ⟨v0, _ | ⟨v1, _ | ⟨v2, _ | ⟨v3, _ | ⟨vx, cs⟩⟩⟩⟩⟩ <;> simp at hl
   exact ⟨v0, v1, v2, v3, rfl⟩
 have key : ∀ (i : Nat) (f : Field) (v : Value), (#[v0, v1, v2, v3] : Array Value)[i]? = some v → f.type = 3 → f.offset = i → (∃ n y, DataW.trod enc Tryd.prog w base sp held n f.type ((([v0, v1, v2, v3] : List Value).drop f.offset).take (Tryd.prog.cellsOf f.type)) = some y) → ∃ n : Int, v = .int .i64 n ∧ -9223372036854775808 ≤ n ∧ n ≤ 9223372036854775807 := by
   intro i f v hv ht ho ⟨n, y, hy⟩
   rw [ht, ci, ho] at hy
   obtain ⟨z, hz, hz1, hz2⟩ := fld_int (P := Tryd.prog) Tryd.underlying3 hy
   have hv2 : ([v0, v1, v2, v3] : List Value)[i]? = some v := by simpa using hv
   obtain ⟨hi, hvi⟩ := List.getElem?_eq_some_iff.1 hv2
   rw [List.drop_eq_getElem_cons hi, hvi] at hz
   have hz0 : v = .int .i64 z := by simpa using hz
   have m1 : IntKind.i64.min = -9223372036854775808 := by decide
   have m2 : IntKind.i64.max = 9223372036854775807 := by decide
   rw [m1] at hz1; rw [m2] at hz2
   exact ⟨z, hz0, hz1, hz2⟩
 obtain ⟨n0, e0, a0, b0⟩ := key 0 _ v0 rfl rfl rfl (hf 0 _ rfl)
 subst e0
 obtain ⟨n1, e1, a1, b1⟩ := key 1 _ v1 rfl rfl rfl (hf 1 _ rfl)
 subst e1
 obtain ⟨n2, e2, a2, b2⟩ := key 2 _ v2 rfl rfl rfl (hf 2 _ rfl)
 subst e2
 obtain ⟨n3, e3, a3, b3⟩ := key 3 _ v3 rfl rfl rfl (hf 3 _ rfl)
 subst e3
 exact ⟨⟨n0, n1, n2, n3⟩, rfl, ⟨a0, b0⟩, ⟨a1, b1⟩, ⟨a2, b2⟩, ⟨a3, b3⟩⟩
set_option maxHeartbeats 1000000 in
theorem opens_limits : OpensW Tryd.prog 30 n4C n4Ok := by
 intro H enc w base sp held fuel cs x h
 obtain ⟨hl, hf⟩ := trod_fld Tryd.underlying30 h
 have ci : Tryd.prog.cellsOf 3 = 1 := by kernel_rfl
 have cn : Tryd.prog.cellsOf 30 = 4 := by kernel_rfl
 rw [cn] at hl
 obtain ⟨v0, v1, v2, v3, rfl⟩ : ∃ v0 v1 v2 v3, cs = [v0, v1, v2, v3] := by
   rcases cs with _ | ⟨v0, _ | ⟨v1, _ | ⟨v2, _ | ⟨v3, _ | ⟨vx, cs⟩⟩⟩⟩⟩ <;> simp at hl
   exact ⟨v0, v1, v2, v3, rfl⟩
 have key : ∀ (i : Nat) (f : Field) (v : Value), (#[v0, v1, v2, v3] : Array Value)[i]? = some v → f.type = 3 → f.offset = i → (∃ n y, DataW.trod enc Tryd.prog w base sp held n f.type ((([v0, v1, v2, v3] : List Value).drop f.offset).take (Tryd.prog.cellsOf f.type)) = some y) → ∃ n : Int, v = .int .i64 n ∧ -9223372036854775808 ≤ n ∧ n ≤ 9223372036854775807 := by
   intro i f v hv ht ho ⟨n, y, hy⟩
   rw [ht, ci, ho] at hy
   obtain ⟨z, hz, hz1, hz2⟩ := fld_int (P := Tryd.prog) Tryd.underlying3 hy
   have hv2 : ([v0, v1, v2, v3] : List Value)[i]? = some v := by simpa using hv
   obtain ⟨hi, hvi⟩ := List.getElem?_eq_some_iff.1 hv2
   rw [List.drop_eq_getElem_cons hi, hvi] at hz
   have hz0 : v = .int .i64 z := by simpa using hz
   have m1 : IntKind.i64.min = -9223372036854775808 := by decide
   have m2 : IntKind.i64.max = 9223372036854775807 := by decide
   rw [m1] at hz1; rw [m2] at hz2
   exact ⟨z, hz0, hz1, hz2⟩
 obtain ⟨n0, e0, a0, b0⟩ := key 0 _ v0 rfl rfl rfl (hf 0 _ rfl)
 subst e0
 obtain ⟨n1, e1, a1, b1⟩ := key 1 _ v1 rfl rfl rfl (hf 1 _ rfl)
 subst e1
 obtain ⟨n2, e2, a2, b2⟩ := key 2 _ v2 rfl rfl rfl (hf 2 _ rfl)
 subst e2
 obtain ⟨n3, e3, a3, b3⟩ := key 3 _ v3 rfl rfl rfl (hf 3 _ rfl)
 subst e3
 exact ⟨⟨n0, n1, n2, n3⟩, rfl, ⟨a0, b0⟩, ⟨a1, b1⟩, ⟨a2, b2⟩, ⟨a3, b3⟩⟩
structure Sp where
 cs : List Col
 pc : Option Addr
 cc : Nat
 os : List Cov
 po : Option Addr
 co : Nat
 li : N4
 rs : List N5
 pr : Option Addr
 cr : Nat
 fs : List N5
 pf : Option Addr
 cf : Nat
 ts : List Tk
 pt : Option Addr
 ct : Nat
 lm : N4
def spT (s : Sp) : Tl := ⟨.int .i64 s.li.a, .int .i64 s.li.b, .int .i64 s.li.c, .int .i64 s.li.d, .slice s.pr s.rs.length s.cr, .slice s.pf s.fs.length s.cf, .slice s.pt s.ts.length s.ct, .int .i64 s.lm.a, .int .i64 s.lm.b, .int .i64 s.lm.c, .int .i64 s.lm.d⟩
def spC (s : Sp) : List Value := shC (.slice s.pc s.cs.length s.cc) (.slice s.po s.os.length s.co) (spT s)
end Go.Proofs.YtlinjngifacmoaaDoor
namespace Go.Proofs.YtlinjngifacmoaaDoor
open Go Go.RowKit Tw
theorem n5C_one (r : N5) : ∀ v ∈ n5C r, v.oneCell' = true := fun v hv => by
 simp only [n5C, List.mem_cons, List.not_mem_nil, or_false] at hv
 rcases hv with rfl | rfl | rfl | rfl | rfl <;> rfl
theorem tkC_one (r : Tk) : ∀ v ∈ tkC r, v.oneCell' = true := fun v hv => by
 simp only [tkC, List.mem_cons, List.not_mem_nil, or_false] at hv
 rcases hv with rfl | rfl | rfl | rfl | rfl | rfl <;> rfl
theorem el_row : Elem Tryd.prog 26 123 5 40 (.agg #[.int .i64 0, .int .i64 0, .int .i64 0, .int .i64 0, .int .i64 0]) := Elem.mk' Tryd.underlying26 Tw.kr rfl
theorem el_fra : Elem Tryd.prog 27 126 5 40 (.agg #[.int .i64 0, .int .i64 0, .int .i64 0, .int .i64 0, .int .i64 0]) := Elem.mk' Tryd.underlying27 Tw.kr rfl
theorem el_tnk : Elem Tryd.prog 28 129 6 64 (.agg #[.int .i64 0, .int .i64 0, .int .i64 0, .int .i64 0, .int .i64 0, .slice none 0 0]) := Elem.mk' Tryd.underlying28 Tw.kr rfl
def mkRow (i : Nat) : N5 := ⟨0, mkI i, 0, 0, 0⟩
def mkFra (i : Nat) : N5 := ⟨mkI i, 0, 0, 0, 0⟩
def mkRowL (i : Nat) : List N5 := (List.range i).map mkRow
theorem mkRowL_len (i : Nat) : (mkRowL i).length = i := by simp [mkRowL]
theorem mkRowL_s (i : Nat) : mkRowL (i + 1) = mkRowL i ++ [mkRow i] := by simp [mkRowL, List.range_succ]
theorem mkRowL_at {i n : Nat} (h : i < n) : (mkRowL n)[i]? = some (mkRow i) := by simp [mkRowL, h]
def mkFraL (i : Nat) : List N5 := (List.range i).map mkFra
theorem mkFraL_len (i : Nat) : (mkFraL i).length = i := by simp [mkFraL]
theorem mkFraL_s (i : Nat) : mkFraL (i + 1) = mkFraL i ++ [mkFra i] := by simp [mkFraL, List.range_succ]
theorem mkFraL_at {i n : Nat} (h : i < n) : (mkFraL n)[i]? = some (mkFra i) := by simp [mkFraL, h]
set_option maxRecDepth 100000 in
set_option maxHeartbeats 4000000 in
theorem markRow_any (i : Nat) (hi : i ≤ 4000000000) (w : World) : Calls Tryd.prog 75 #[.int .i64 1, .int .i64 i] w fun e w' => e = .returned (.agg (n5C (mkRow i)).toArray) ∧ Below w.heap.size w w' := by
 go_enter Tryd.func75, Tryd.ntmps75
 refine wp_seq ?_
 refine wp_region_L [] (KS.start w) ?_
 refine wpL_new (fun g => .pointer (some ⟨g, 0, none⟩)) (obi := .cells #[.int .i64 0, .int .i64 0, .int .i64 0, .int .i64 0, .int .i64 0] 123 (0, 0)) rfl rfl Tw.kf Tw.pf fun g1 Bg1 Fg1 => ?_
 refine wpL_done (fun W1 hW1 => ?_)
 change Code.wp ..
 refine wp_seq ?_
 refine wp_region_L _ hW1 ?_
 refine lm (v := .int .i64 1) rfl rfl ?_
 refine lm (v := .int .i64 ((i : Nat) : Int)) rfl rfl ?_
 refine lv (v := .int .i64 (mkI i)) rfl rfl (yb_call (f := 79) (args := #[.int .i64 1, .int .i64 ((i : Nat) : Int)]) Tw.kf fun W hW => mark_any 1 ((i : Nat) : Int) Tw.om Tw.om W) ?_
 refine lm (v := .agg #[.int .i64 0, .int .i64 (mkI i), .int .i64 0, .int .i64 0, .int .i64 0]) rfl rfl ?_
 refine wpL_s [(g1, .cells #[.int .i64 0, .int .i64 (mkI i), .int .i64 0, .int .i64 0, .int .i64 0] 123 (0, 0))] rfl rfl (st_row (off := 0) (v := .agg #[.int .i64 0, .int .i64 (mkI i), .int .i64 0, .int .i64 0, .int .i64 0]) rfl Tw.kr Tw.kr Tw.m0 Bg1 Tw.kr (by first | (simp [Value.cells]; done) | exact Nat.le_of_ble_eq_true rfl) (by intro v hv; simp [Value.cells] at hv; first | (subst hv; rfl) | (rcases hv with rfl | rfl | rfl | rfl | rfl <;> rfl)) Tw.kr (List.forall_mem_cons.2 ⟨.inl rfl, (List.forall_mem_nil _)⟩)) ?_
 refine wpL_done (fun W2 hW2 => ?_)
 change Code.wp ..
 refine wp_ret ?_
 try simp only [inBlock_ret, then_ret]
 refine bodyPost_ret (v := .agg #[.int .i64 0, .int .i64 (mkI i), .int .i64 0, .int .i64 0, .int .i64 0]) ?_ rfl ?_
 · exact (res_cell (p := 4) rfl rfl (hW2.2 _ Tw.m0) Tryd.underlying123 rfl Tw.kr)
 · exact ⟨rfl, hW2.1⟩
set_option maxRecDepth 100000 in
set_option maxHeartbeats 4000000 in
theorem markFrame_any (i : Nat) (hi : i ≤ 4000000000) (w : World) : Calls Tryd.prog 76 #[.int .i64 1, .int .i64 i] w fun e w' => e = .returned (.agg (n5C (mkFra i)).toArray) ∧ Below w.heap.size w w' := by
 go_enter Tryd.func76, Tryd.ntmps76
 refine wp_seq ?_
 refine wp_region_L [] (KS.start w) ?_
 refine wpL_new (fun g => .pointer (some ⟨g, 0, none⟩)) (obi := .cells #[.int .i64 0, .int .i64 0, .int .i64 0, .int .i64 0, .int .i64 0] 126 (0, 0)) rfl rfl Tw.kf Tw.pf fun g1 Bg1 Fg1 => ?_
 refine wpL_done (fun W1 hW1 => ?_)
 change Code.wp ..
 refine wp_seq ?_
 refine wp_region_L _ hW1 ?_
 refine lm (v := .int .i64 1) rfl rfl ?_
 refine lm (v := .int .i64 ((i : Nat) : Int)) rfl rfl ?_
 refine lv (v := .int .i64 (mkI i)) rfl rfl (yb_call (f := 79) (args := #[.int .i64 1, .int .i64 ((i : Nat) : Int)]) Tw.kf fun W hW => mark_any 1 ((i : Nat) : Int) Tw.om Tw.om W) ?_
 refine lm (v := .agg #[.int .i64 (mkI i), .int .i64 0, .int .i64 0, .int .i64 0, .int .i64 0]) rfl rfl ?_
 refine wpL_s [(g1, .cells #[.int .i64 (mkI i), .int .i64 0, .int .i64 0, .int .i64 0, .int .i64 0] 126 (0, 0))] rfl rfl (st_row (off := 0) (v := .agg #[.int .i64 (mkI i), .int .i64 0, .int .i64 0, .int .i64 0, .int .i64 0]) rfl Tw.kr Tw.kr Tw.m0 Bg1 Tw.kr (by first | (simp [Value.cells]; done) | exact Nat.le_of_ble_eq_true rfl) (by intro v hv; simp [Value.cells] at hv; first | (subst hv; rfl) | (rcases hv with rfl | rfl | rfl | rfl | rfl <;> rfl)) Tw.kr (List.forall_mem_cons.2 ⟨.inl rfl, (List.forall_mem_nil _)⟩)) ?_
 refine wpL_done (fun W2 hW2 => ?_)
 change Code.wp ..
 refine wp_ret ?_
 try simp only [inBlock_ret, then_ret]
 refine bodyPost_ret (v := .agg #[.int .i64 (mkI i), .int .i64 0, .int .i64 0, .int .i64 0, .int .i64 0]) ?_ rfl ?_
 · exact (res_cell (p := 4) rfl rfl (hW2.2 _ Tw.m0) Tryd.underlying126 rfl Tw.kr)
 · exact ⟨rfl, hW2.1⟩
set_option maxRecDepth 100000 in
set_option maxHeartbeats 4000000 in
theorem LentRows_any (l : List N5) (p : Option Addr) (c : Nat) (hl : l.length ≤ 3518437208780) (w : World) (hp : SLV w p (l.flatMap n5C)) : Calls Tryd.prog 41 #[.slice p l.length c] w fun e w' => ∃ q d, e = .returned (.slice q l.length d) ∧ l.length + 12 ≤ d ∧ OutV w w' 123 5 (.slice q (l ++ mkRowL 12).length d) (l ++ mkRowL 12).length ((l ++ mkRowL 12).flatMap n5C) ∧ Below w.heap.size w w' := by
 have HP := Lib.hid hp
 clear hp
 go_enter Tryd.func41, Tryd.ntmps41
 refine wp_seq ?_
 refine wp_region_L [] (KS.start w) ?_
 refine lm (v := .slice none 0 0) rfl rfl ?_
 refine wpL_done (fun W1 hW1 => ?_)
 change Code.wp ..
 refine wp_seq ?_
 refine wp_region_L _ hW1 ?_
 refine lm (v := .slice p l.length c) rfl rfl ?_
 refine lp (v := .int .i64 ((l.length : Nat) : Int)) rfl rfl (run_lenL (p := p) (cap := c) (n := l.length) rfl Tryd.underlying26 Tw.kr) ?_
 refine lp (v := .int .i64 (((l.length + 12) : Nat) : Int)) rfl rfl (run_bin rfl (vx := (.int .i64 ((l.length : Nat) : Int))) (vy := (.int .i64 ((12 : Nat) : Int))) Tw.kr Tw.kr fun w => bn_add (z := (l.length + 12)) rfl (wr_i64 Tw.om) w) ?_
 refine wpL_new (fun g => .slice (some ⟨g, 0, none⟩) 0 (l.length + 12)) (obi := .cells (madeCells (Value.cells (.agg #[.int .i64 0, .int .i64 0, .int .i64 0, .int .i64 0, .int .i64 0])) ((l.length + 12) * 5)) 123 (0, 0)) rfl rfl (run_mk0L (c := (l.length + 12)) (z := (.agg #[.int .i64 0, .int .i64 0, .int .i64 0, .int .i64 0, .int .i64 0])) (sz := 5) (b := 40) rfl Tryd.underlying26 Tw.kr (by decide) Tw.kr Tw.kr Tw.om) Tw.pf fun g1 Bg1 Fg1 => ?_
 refine lm (v := .slice (some ⟨g1, 0, none⟩) 0 (l.length + 12)) rfl rfl ?_
 refine wpL_done (fun W2 hW2 => ?_)
 change Code.wp ..
 refine wp_seq ?_
 refine wp_region_L _ hW2 ?_
 refine lm (v := .slice (some ⟨g1, 0, none⟩) 0 (l.length + 12)) rfl rfl ?_
 refine lm (v := .slice p l.length c) rfl rfl ?_
 have Om2 := (own_madeL (cells := n5C) (c := (l.length + 12)) (E := 123) (z := (.agg #[.int .i64 0, .int .i64 0, .int .i64 0, .int .i64 0, .int .i64 0])) Bg1 rfl Tw.om)
 refine wpL_g (AppO w 123 5 [] (0 + l.length) ((([] : List N5).flatMap n5C) ++ (l.flatMap n5C))) rfl rfl (app_anyL el_row (m := l.length) (news := (l.flatMap n5C)) (y := .slice p l.length c) rfl Tw.kr Tw.kr (src_rl (c := c) Tryd.underlying26 n5C_len n5C_one (by decide) ((RL.base HP.out).mono (fun _ h => by cases h)) rfl) Om2 (fun p hp => by cases List.mem_singleton.1 hp; exact Tw.m0) (fun _ h => by cases h) Tw.om Tw.om) Tw.pf ?_
 rintro v3 Kl3 ⟨_, O3, N3, rfl⟩
 refine lm (v := v3) rfl rfl ?_
 refine wpL_done (fun W3 hW3 => ?_)
 change Code.wp ..
 refine wp_seq ?_
 refine wp_seq ?_
 refine wp_region_L _ hW3 ?_
 refine lm (v := .int .i64 0) rfl rfl ?_
 refine wpL_done (fun W4 hW4 => ?_)
 change Code.wp ..
 refine wp_block ?_
 go_loopw [4, 3] (fun u4 u3 wr => ∃ (i : Nat) (vo : Value) (Ko : List (Nat × Obj)), (i ≤ 12) ∧ (OwnL w 123 5 vo (l.length + i) ((l ++ mkRowL i).flatMap n5C) Ko) ∧ u4 = .int .i64 ((i : Nat) : Int) ∧ vo = u3 ∧ KS w Ko wr) (fun u4 _ _ => 12 - (intOf u4).toNat)
 case atStart => exact ⟨0, v3, Kl3, (Nat.zero_le _), (by have h9 := O3; rw [List.flatMap_nil, List.nil_append, Nat.zero_add] at h9; rw [show l ++ mkRowL 0 = l from by simp [mkRowL]]; exact h9), rfl, rfl, (hW4.sub (fun p hp => by first | exact hp | (simp only [List.mem_cons, List.mem_append, List.nil_append, List.not_mem_nil, or_assoc, or_false, false_or] at hp ⊢ <;> grind)))⟩
 case round =>
   obtain ⟨i, vo, Ko, hi, hO, rfl, rfl, hL5⟩ := hrel
   refine wp_seq ?_
   refine wp_seq ?_
   refine wp_region_L _ hL5 ?_
   refine lm (v := .int .i64 ((i : Nat) : Int)) rfl rfl ?_
   refine lp (v := .bool (decide (i < 12))) rfl rfl (run_bin rfl (vx := (.int .i64 ((i : Nat) : Int))) (vy := (.int .i64 ((12 : Nat) : Int))) Tw.kr Tw.kr fun w => bn_lss rfl w) ?_
   refine wpL_done (fun W6 hW6 => ?_)
   change Code.wp ..
   cases hd1 : (decide (i < 12)) with
   | false =>
     have h1 : ¬ (i < 12) := of_decide_eq_false hd1
     clear hd1
     refine wp_cond_false rfl ?_
     refine wp_exit ?_
     change Code.wp ..
     refine wp_seq ?_
     refine wp_region_L _ hW6 ?_
     refine lm (v := vo) rfl rfl ?_
     refine lm (v := .slice p l.length c) rfl rfl ?_
     refine lp (v := .int .i64 ((l.length : Nat) : Int)) rfl rfl (run_lenL (p := p) (cap := c) (n := l.length) rfl Tryd.underlying26 Tw.kr) ?_
     have hi12 : i = 12 := by omega
     subst hi12
     have hO2 := own_app (cells := n5C) (l' := l ++ mkRowL 12) hO rfl (by rw [List.length_append, mkRowL_len])
     obtain ⟨q9, d9, rfl, hd9, R9⟩ := own_rl hO2
     have hlen : (l ++ mkRowL 12).length = l.length + 12 := by rw [List.length_append, mkRowL_len]
     refine lp (v := .slice q9 l.length d9) rfl rfl (run_slt (kd := .i64) (j := l.length) (n := (l ++ mkRowL 12).length) (c := d9) (sz := 5) rfl Tryd.underlying26 Tw.kr Tw.kr Tw.kr Tw.om) ?_
     refine lm (v := .slice q9 l.length d9) rfl rfl ?_
     refine wpL_done (fun W7 hW7 => ?_)
     change Code.wp ..
     refine wp_ret ?_
     try simp only [inBlock_ret, then_ret]
     refine bodyPost_ret (v := .slice q9 l.length d9) ?_ rfl ?_
     · kernel_rfl
     · exact ⟨q9, d9, rfl, by omega, hO2.out (fun p hp => by simp only [List.mem_cons, List.mem_append, List.nil_append, List.not_mem_nil, or_assoc, or_false, false_or, hp, true_or, or_true]) hW7, hW7.1⟩
   | true =>
     have h1 : i < 12 := of_decide_eq_true hd1
     clear hd1
     refine wp_cond_true rfl ?_
     refine wp_skip ?_
     change Code.wp ..
     refine wp_seq ?_
     refine wp_block ?_
     refine wp_region_L _ hW6 ?_
     refine lm (v := vo) rfl rfl ?_
     refine lm (v := .int .i64 ((i : Nat) : Int)) rfl rfl ?_
     refine lv (v := .agg (n5C (mkRow i)).toArray) rfl rfl (yb_call (f := 75) (args := #[.int .i64 1, .int .i64 ((i : Nat) : Int)]) Tw.kf fun W hW => markRow_any i Tw.om W) ?_
     refine wpL_new (fun g => .slice (some ⟨g, 0, none⟩) 1 1) (obi := .cells (n5C (mkRow i)).toArray 123 (0, 0)) rfl rfl Tw.kf Tw.pf fun g5 Bg5 Fg5 => ?_
     obtain dj6_0 : Dk g5 Ko := Tw.dkf Fg5
     refine wpL_g (AppO w 123 5 [] ((l.length + i) + 1) (((l ++ mkRowL i).flatMap n5C) ++ [.int .i64 ((mkRow i).a), .int .i64 ((mkRow i).b), .int .i64 ((mkRow i).c), .int .i64 ((mkRow i).d), .int .i64 ((mkRow i).e)])) rfl rfl (app_ownL el_row (m := 1) (c := 1) (news := [.int .i64 ((mkRow i).a), .int .i64 ((mkRow i).b), .int .i64 ((mkRow i).c), .int .i64 ((mkRow i).d), .int .i64 ((mkRow i).e)]) rfl Tw.kr Tw.kr Tw.m0 hO Tw.sc (fun _ h => by cases h) rfl (by simp [strV, Value.oneCell']) Tw.om Tw.om Tw.om) Tw.pf ?_
     rintro v7 Kl7 ⟨_, O7, N7, rfl⟩
     refine lm (v := v7) rfl rfl ?_
     refine wpL_done (fun W8 hW8 => ?_)
     change Code.wp ..
     refine wp_region_L _ hW8 ?_
     refine lm (v := .int .i64 ((i : Nat) : Int)) rfl rfl ?_
     refine lp (v := .int .i64 (((i + 1) : Nat) : Int)) rfl rfl (run_bin rfl (vx := (.int .i64 ((i : Nat) : Int))) (vy := (.int .i64 ((1 : Nat) : Int))) Tw.kr Tw.kr fun w => bn_add (z := (i + 1)) rfl (wr_i64 Tw.om) w) ?_
     refine lm (v := .int .i64 (((i + 1) : Nat) : Int)) rfl rfl ?_
     refine wpL_done (fun W9 hW9 => ?_)
     go_roundw
     case rel =>
       repeat apply Exists.intro
       exact ⟨⟨i + 1, v7, Kl7, Tw.om, (by have h9 := own_app (cells := n5C) (l' := l ++ mkRowL (i + 1)) O7 (by rw [mkRowL_s, ← List.append_assoc, List.flatMap_append (ys := [mkRow i])]; rfl) (by rw [mkRowL_s, List.length_append, List.length_append, mkRowL_len]; rfl); rw [List.length_append, mkRowL_len] at h9; exact h9), rfl, rfl, (hW9.sub (fun p hp => by first | exact hp | (simp only [List.mem_cons, List.mem_append, List.nil_append, List.not_mem_nil, or_assoc, or_false, false_or] at hp ⊢ <;> grind)))⟩, rfl⟩
     case measure => (show 12 - (intOf (.int .i64 (((i + 1) : Nat) : Int))).toNat < 12 - (intOf (.int .i64 ((i : Nat) : Int))).toNat); simp only [intOf]; omega
set_option maxRecDepth 100000 in
set_option maxHeartbeats 4000000 in
theorem LentFrames_any (l : List N5) (p : Option Addr) (c : Nat) (hl : l.length ≤ 3518437208780) (w : World) (hp : SLV w p (l.flatMap n5C)) : Calls Tryd.prog 42 #[.slice p l.length c] w fun e w' => ∃ q d, e = .returned (.slice q l.length d) ∧ l.length + 12 ≤ d ∧ OutV w w' 126 5 (.slice q (l ++ mkFraL 12).length d) (l ++ mkFraL 12).length ((l ++ mkFraL 12).flatMap n5C) ∧ Below w.heap.size w w' := by
 have HP := Lib.hid hp
 clear hp
 go_enter Tryd.func42, Tryd.ntmps42
 refine wp_seq ?_
 refine wp_region_L [] (KS.start w) ?_
 refine lm (v := .slice none 0 0) rfl rfl ?_
 refine wpL_done (fun W1 hW1 => ?_)
 change Code.wp ..
 refine wp_seq ?_
 refine wp_region_L _ hW1 ?_
 refine lm (v := .slice p l.length c) rfl rfl ?_
 refine lp (v := .int .i64 ((l.length : Nat) : Int)) rfl rfl (run_lenL (p := p) (cap := c) (n := l.length) rfl Tryd.underlying27 Tw.kr) ?_
 refine lp (v := .int .i64 (((l.length + 12) : Nat) : Int)) rfl rfl (run_bin rfl (vx := (.int .i64 ((l.length : Nat) : Int))) (vy := (.int .i64 ((12 : Nat) : Int))) Tw.kr Tw.kr fun w => bn_add (z := (l.length + 12)) rfl (wr_i64 Tw.om) w) ?_
 refine wpL_new (fun g => .slice (some ⟨g, 0, none⟩) 0 (l.length + 12)) (obi := .cells (madeCells (Value.cells (.agg #[.int .i64 0, .int .i64 0, .int .i64 0, .int .i64 0, .int .i64 0])) ((l.length + 12) * 5)) 126 (0, 0)) rfl rfl (run_mk0L (c := (l.length + 12)) (z := (.agg #[.int .i64 0, .int .i64 0, .int .i64 0, .int .i64 0, .int .i64 0])) (sz := 5) (b := 40) rfl Tryd.underlying27 Tw.kr (by decide) Tw.kr Tw.kr Tw.om) Tw.pf fun g1 Bg1 Fg1 => ?_
 refine lm (v := .slice (some ⟨g1, 0, none⟩) 0 (l.length + 12)) rfl rfl ?_
 refine wpL_done (fun W2 hW2 => ?_)
 change Code.wp ..
 refine wp_seq ?_
 refine wp_region_L _ hW2 ?_
 refine lm (v := .slice (some ⟨g1, 0, none⟩) 0 (l.length + 12)) rfl rfl ?_
 refine lm (v := .slice p l.length c) rfl rfl ?_
 have Om2 := (own_madeL (cells := n5C) (c := (l.length + 12)) (E := 126) (z := (.agg #[.int .i64 0, .int .i64 0, .int .i64 0, .int .i64 0, .int .i64 0])) Bg1 rfl Tw.om)
 refine wpL_g (AppO w 126 5 [] (0 + l.length) ((([] : List N5).flatMap n5C) ++ (l.flatMap n5C))) rfl rfl (app_anyL el_fra (m := l.length) (news := (l.flatMap n5C)) (y := .slice p l.length c) rfl Tw.kr Tw.kr (src_rl (c := c) Tryd.underlying27 n5C_len n5C_one (by decide) ((RL.base HP.out).mono (fun _ h => by cases h)) rfl) Om2 (fun p hp => by cases List.mem_singleton.1 hp; exact Tw.m0) (fun _ h => by cases h) Tw.om Tw.om) Tw.pf ?_
 rintro v3 Kl3 ⟨_, O3, N3, rfl⟩
 refine lm (v := v3) rfl rfl ?_
 refine wpL_done (fun W3 hW3 => ?_)
 change Code.wp ..
 refine wp_seq ?_
 refine wp_seq ?_
 refine wp_region_L _ hW3 ?_
 refine lm (v := .int .i64 0) rfl rfl ?_
 refine wpL_done (fun W4 hW4 => ?_)
 change Code.wp ..
 refine wp_block ?_
 go_loopw [4, 3] (fun u4 u3 wr => ∃ (i : Nat) (vo : Value) (Ko : List (Nat × Obj)), (i ≤ 12) ∧ (OwnL w 126 5 vo (l.length + i) ((l ++ mkFraL i).flatMap n5C) Ko) ∧ u4 = .int .i64 ((i : Nat) : Int) ∧ vo = u3 ∧ KS w Ko wr) (fun u4 _ _ => 12 - (intOf u4).toNat)
 case atStart => exact ⟨0, v3, Kl3, (Nat.zero_le _), (by have h9 := O3; rw [List.flatMap_nil, List.nil_append, Nat.zero_add] at h9; rw [show l ++ mkFraL 0 = l from by simp [mkFraL]]; exact h9), rfl, rfl, (hW4.sub (fun p hp => by first | exact hp | (simp only [List.mem_cons, List.mem_append, List.nil_append, List.not_mem_nil, or_assoc, or_false, false_or] at hp ⊢ <;> grind)))⟩
 case round =>
   obtain ⟨i, vo, Ko, hi, hO, rfl, rfl, hL5⟩ := hrel
   refine wp_seq ?_
   refine wp_seq ?_
   refine wp_region_L _ hL5 ?_
   refine lm (v := .int .i64 ((i : Nat) : Int)) rfl rfl ?_
   refine lp (v := .bool (decide (i < 12))) rfl rfl (run_bin rfl (vx := (.int .i64 ((i : Nat) : Int))) (vy := (.int .i64 ((12 : Nat) : Int))) Tw.kr Tw.kr fun w => bn_lss rfl w) ?_
   refine wpL_done (fun W6 hW6 => ?_)
   change Code.wp ..
   cases hd1 : (decide (i < 12)) with
   | false =>
     have h1 : ¬ (i < 12) := of_decide_eq_false hd1
     clear hd1
     refine wp_cond_false rfl ?_
     refine wp_exit ?_
     change Code.wp ..
     refine wp_seq ?_
     refine wp_region_L _ hW6 ?_
     refine lm (v := vo) rfl rfl ?_
     refine lm (v := .slice p l.length c) rfl rfl ?_
     refine lp (v := .int .i64 ((l.length : Nat) : Int)) rfl rfl (run_lenL (p := p) (cap := c) (n := l.length) rfl Tryd.underlying27 Tw.kr) ?_
     have hi12 : i = 12 := by omega
     subst hi12
     have hO2 := own_app (cells := n5C) (l' := l ++ mkFraL 12) hO rfl (by rw [List.length_append, mkFraL_len])
     obtain ⟨q9, d9, rfl, hd9, R9⟩ := own_rl hO2
     have hlen : (l ++ mkFraL 12).length = l.length + 12 := by rw [List.length_append, mkFraL_len]
     refine lp (v := .slice q9 l.length d9) rfl rfl (run_slt (kd := .i64) (j := l.length) (n := (l ++ mkFraL 12).length) (c := d9) (sz := 5) rfl Tryd.underlying27 Tw.kr Tw.kr Tw.kr Tw.om) ?_
     refine lm (v := .slice q9 l.length d9) rfl rfl ?_
     refine wpL_done (fun W7 hW7 => ?_)
     change Code.wp ..
     refine wp_ret ?_
     try simp only [inBlock_ret, then_ret]
     refine bodyPost_ret (v := .slice q9 l.length d9) ?_ rfl ?_
     · kernel_rfl
     · exact ⟨q9, d9, rfl, by omega, hO2.out (fun p hp => by simp only [List.mem_cons, List.mem_append, List.nil_append, List.not_mem_nil, or_assoc, or_false, false_or, hp, true_or, or_true]) hW7, hW7.1⟩
   | true =>
     have h1 : i < 12 := of_decide_eq_true hd1
     clear hd1
     refine wp_cond_true rfl ?_
     refine wp_skip ?_
     change Code.wp ..
     refine wp_seq ?_
     refine wp_block ?_
     refine wp_region_L _ hW6 ?_
     refine lm (v := vo) rfl rfl ?_
     refine lm (v := .int .i64 ((i : Nat) : Int)) rfl rfl ?_
     refine lv (v := .agg (n5C (mkFra i)).toArray) rfl rfl (yb_call (f := 76) (args := #[.int .i64 1, .int .i64 ((i : Nat) : Int)]) Tw.kf fun W hW => markFrame_any i Tw.om W) ?_
     refine wpL_new (fun g => .slice (some ⟨g, 0, none⟩) 1 1) (obi := .cells (n5C (mkFra i)).toArray 126 (0, 0)) rfl rfl Tw.kf Tw.pf fun g5 Bg5 Fg5 => ?_
     obtain dj6_0 : Dk g5 Ko := Tw.dkf Fg5
     refine wpL_g (AppO w 126 5 [] ((l.length + i) + 1) (((l ++ mkFraL i).flatMap n5C) ++ [.int .i64 ((mkFra i).a), .int .i64 ((mkFra i).b), .int .i64 ((mkFra i).c), .int .i64 ((mkFra i).d), .int .i64 ((mkFra i).e)])) rfl rfl (app_ownL el_fra (m := 1) (c := 1) (news := [.int .i64 ((mkFra i).a), .int .i64 ((mkFra i).b), .int .i64 ((mkFra i).c), .int .i64 ((mkFra i).d), .int .i64 ((mkFra i).e)]) rfl Tw.kr Tw.kr Tw.m0 hO Tw.sc (fun _ h => by cases h) rfl (by simp [strV, Value.oneCell']) Tw.om Tw.om Tw.om) Tw.pf ?_
     rintro v7 Kl7 ⟨_, O7, N7, rfl⟩
     refine lm (v := v7) rfl rfl ?_
     refine wpL_done (fun W8 hW8 => ?_)
     change Code.wp ..
     refine wp_region_L _ hW8 ?_
     refine lm (v := .int .i64 ((i : Nat) : Int)) rfl rfl ?_
     refine lp (v := .int .i64 (((i + 1) : Nat) : Int)) rfl rfl (run_bin rfl (vx := (.int .i64 ((i : Nat) : Int))) (vy := (.int .i64 ((1 : Nat) : Int))) Tw.kr Tw.kr fun w => bn_add (z := (i + 1)) rfl (wr_i64 Tw.om) w) ?_
     refine lm (v := .int .i64 (((i + 1) : Nat) : Int)) rfl rfl ?_
     refine wpL_done (fun W9 hW9 => ?_)
     go_roundw
     case rel =>
       repeat apply Exists.intro
       exact ⟨⟨i + 1, v7, Kl7, Tw.om, (by have h9 := own_app (cells := n5C) (l' := l ++ mkFraL (i + 1)) O7 (by rw [mkFraL_s, ← List.append_assoc, List.flatMap_append (ys := [mkFra i])]; rfl) (by rw [mkFraL_s, List.length_append, List.length_append, mkFraL_len]; rfl); rw [List.length_append, mkFraL_len] at h9; exact h9), rfl, rfl, (hW9.sub (fun p hp => by first | exact hp | (simp only [List.mem_cons, List.mem_append, List.nil_append, List.not_mem_nil, or_assoc, or_false, false_or] at hp ⊢ <;> grind)))⟩, rfl⟩
     case measure => (show 12 - (intOf (.int .i64 (((i + 1) : Nat) : Int))).toNat < 12 - (intOf (.int .i64 ((i : Nat) : Int))).toNat); simp only [intOf]; omega
end Go.Proofs.YtlinjngifacmoaaDoor
