import Derived.Test.YtjbbeolapaaiaaaDoorIPz00
import Derived.Test.YtjbbeolapaaiaaaDoorG00
import Derived.Test.YtjbbeolapaaiaaaDoorG03
import Derived.Test.YtjbbeolapaaiaaaDoorG05
import Derived.Laws.OwnMore
import Derived.Laws.Small
/- BoxOrder: the law holds for every input; no condition but the row's own. -/
set_option linter.unusedVariables false
set_option linter.unusedSimpArgs false
set_option linter.unusedSectionVars false
namespace Go.Proofs.YtjbbeolapaaiaaaDoor
open Go Go.RowKit Tw
theorem un_neg {P : Program} {k : IntKind} {n z : Int} (h : k.wrap (0 - n) = z) (w : World) : (Op.unary .neg (.int k n) : Sem Value).run P w = .ok (.int k z) w := by
  simp only [Op.unary, Op.intArith, h]
  rfl
theorem own_some {W0 : Base} {E : TypeId} {sz n : Nat} {v : Value} {xs : List Value} {K : List (Nat × Obj)} (h : OwnL W0 E sz v n xs K) (hn : 0 < n) : ∃ g cap cur, v = .slice (some ⟨g, 0, none⟩) n cap ∧ W0.B ≤ g ∧ RowN sz cur cap n xs ∧ K = [(g, .cells cur E (0, 0))] := by
  rcases h with ⟨rfl, _, _, _⟩ | ⟨g, cap, cur, h1, h2, h3, h4⟩
  · omega
  · exact ⟨g, cap, cur, h1, h2, h3, h4⟩
def putF (cur : Array Value) (i : Nat) (v : Value) : Array Value := (cur.toList.take i ++ [v] ++ cur.toList.drop (i + 1)).toArray
theorem RowX.putf {cur : Array Value} {l : List Bx} {k fo : Nat} {b b' : Bx} {v : Value} (h : RowX cur l) (hb : l[k]? = some b) (hf : fo < 9) (hv : (bxC b').toList = (bxC b).toList.set fo v) : RowX (putF cur (0 + k * 9 + fo) v) (l.set k b') ∧ (putF cur (0 + k * 9 + fo) v).size = cur.size := by
  obtain ⟨rest, h⟩ := h
  obtain ⟨hk, hbe⟩ := List.getElem?_eq_some_iff.1 hb
  have hl : (bcs (l.take k)).length = k * 9 := by rw [bcs_len, List.length_take, Nat.min_eq_left (by omega)]
  have h9 : (bxC b).toList.length = 9 := rfl
  have hset : (putF cur (0 + k * 9 + fo) v).toList = bcs (l.set k b') ++ rest := by
    unfold putF
    rw [set_is hk, bcs_app, show bcs (b' :: l.drop (k + 1)) = (bxC b').toList ++ bcs (l.drop (k + 1)) from rfl, hv]
    simp only [h, bcs_split hb, List.append_assoc, Nat.zero_add]
    rw [← hl, List.take_append, List.take_of_length_le (by omega), Nat.add_sub_cancel_left, List.take_append_of_le_length (by omega), List.append_assoc]
    congr 1
    rw [Nat.add_assoc, ← List.drop_drop, List.drop_left' rfl, List.drop_append_of_le_length (by omega), List.set_eq_take_append_cons_drop, if_pos (by omega)]
    simp
  refine ⟨⟨rest, hset⟩, ?_⟩
  have h1 := congrArg List.length hset
  have h2 := congrArg List.length h
  simp only [List.length_append, bcs_len, List.length_set, Array.length_toList] at h1 h2
  omega
theorem st_fld {W0 : Base} {o : Oper} {a : Act} {K K' : List (Nat × Obj)} {ty t : TypeId} {x y : Operand} {g k fo : Nat} {cur : Array Value} {l : List Bx} {v : Value} (ho : o.op = .store ty x y) (hx : a.eval x = .pointer (some ⟨g, 0 + k * 9 + fo, none⟩)) (hv : a.eval y = v)
    (hm : (g, .cells cur t (0, 0)) ∈ K) (hB : W0.B ≤ g) (hi : (Tryd.prog.info? ty).map (·.size) = some 1) (hvc : v.cells = #[v]) (h1 : v.oneCell' = true) (hr : RowX cur l) (hk : k < l.length) (hf : fo < 9)
    (hK : ∀ p ∈ K', p = (g, .cells (putF cur (0 + k * 9 + fo) v) t (0, 0)) ∨ (p ∈ K ∧ p.1 ≠ g)) : ∀ w, KS W0 K w → ∃ w', (execOp a.eval o).run Tryd.prog w = .ok .skip w' ∧ KS W0 K' w' :=
  st_row (off := 0 + k * 9 + fo) (v := v) ho hx hv hm hB (by rw [hvc]; exact hi) (by have := hr.size; rw [hvc]; show 0 + k * 9 + fo + 1 ≤ cur.size; omega) (by rw [hvc]; intro x hx; cases List.mem_singleton.1 hx; exact h1) (by rw [hvc]; rfl) hK
theorem sum_le_small {l : List Bx} (h : l.length ≤ 1000) : SmOk 1000000 (totalX l) := by
  have := total_le l
  unfold SmOk
  generalize totalX l = s at *
  have h2 : (l.length : Int) ≤ 1000 := by omega
  omega
theorem total_n {l : List Bx} (h : ∀ b ∈ l, rightX b = true) : (totalX l).n = l.length := by
  induction l with
  | nil => rfl
  | cons b l ih =>
    rw [total_cons]
    show (totalX [b]).n + (totalX l).n = _
    rw [ih (fun x hx => h x (.tail _ hx)), show totalX [b] = addX sm0 b from rfl, add_right (h b (.head _))]
    show 0 + 1 + l.length = _
    rw [List.length_cons]; omega
theorem total_lost {l : List Bx} {i : Nat} {b b' : Bx} (hb : l[i]? = some b) (hw : rightX b' = false) : plusX (totalX (l.set i b')) (totalX [b]) = totalX l := by
  obtain ⟨hi, rfl⟩ := List.getElem?_eq_some_iff.1 hb
  have e : totalX l = plusX (totalX (l.take i)) (plusX (totalX [l[i]]) (totalX (l.drop (i + 1)))) := by
    conv => lhs; rw [← List.take_append_drop i l, List.drop_eq_getElem_cons hi, total_app, total_cons]
  have h0 : ∀ s, plusX sm0 s = s := fun s => by rw [plus_comm, plus_zero]
  rw [set_is hi, total_app, total_cons, total_one hw, h0, e, plus_assoc, plus_comm (totalX (l.drop (i + 1)))]
theorem one_at {l : List Bx} {i : Nat} {b : Bx} (hb : l[i]? = some b) : (l.take (i + 1)).drop i = [b] := by
  obtain ⟨hi, rfl⟩ := List.getElem?_eq_some_iff.1 hb
  rw [List.take_succ_eq_append_getElem hi, List.drop_append_of_le_length (by rw [List.length_take]; omega), List.drop_of_length_le (by rw [List.length_take]; omega)]
  rfl
theorem wr_neg {b b' : Bx} (h : rightX b = true) (hk : b'.kilos = -b.kilos) : rightX b' = false := by
  have := right_kilos h
  exact wr5 (by unfold rul5; rw [hk]; simp; omega)
theorem mem_app {A B : List Bx} {b : Bx} {i : Nat} (hA : ∀ b ∈ A, rightX b = true) (hB : ∀ b ∈ B, rightX b = true) (h : (A ++ B)[i]? = some b) : rightX b = true := by
  rcases List.mem_append.1 (List.mem_of_getElem? h) with h | h
  · exact hA b h
  · exact hB b h
set_option maxRecDepth 100000 in
set_option maxHeartbeats 40000000 in
theorem BoxSums_law (w : World) (hE : Env w) (l0 : List Sk) (p0 : Option Addr) (c0 : Nat) (hb0 : SLV w p0 (l0.flatMap skC)) (hok0 : ∀ x ∈ l0, skOk x) (hl0 : l0.length ≤ maxLen) (hc0 : l0.length ≤ c0) (l1 : List Sk) (p1 : Option Addr) (c1 : Nat) (hb1 : SLV w p1 (l1.flatMap skC)) (hok1 : ∀ x ∈ l1, skOk x) (hl1 : l1.length ≤ maxLen) (hc1 : l1.length ≤ c1) (a2 : Int) (rr2 : 0 ≤ a2 ∧ a2 ≤ 255) : Calls Tryd.prog 7 #[.slice p0 l0.length c0, .slice p1 l1.length c1, .int .u8 a2] w fun e w' => e = .returned (.bool true) ∧ Below w.heap.size w w' := by
  have HE := Lib.hid hE
  clear hE
  obtain ⟨at_, rfl⟩ : ∃ n : Nat, a2 = (n : Int) := ⟨a2.toNat, by omega⟩
  have HB0 := Lib.hid hb0
  clear hb0
  have hll0 : l0.length ≤ 9223372036854775807 := by unfold maxLen at hl0; omega
  have hla0 := loaded_len l0
  have hra0 := loaded_right hok0
  have HB1 := Lib.hid hb1
  clear hb1
  have hll1 : l1.length ≤ 9223372036854775807 := by unfold maxLen at hl1; omega
  have hla1 := loaded_len l1
  have hra1 := loaded_right hok1
  have hab : ((loadedX l0) ++ (loadedX l1)).length ≤ 120 := by rw [List.length_append]; omega
  have hba : ((loadedX l1) ++ (loadedX l0)).length ≤ 120 := by rw [List.length_append]; omega
  go_enter Tryd.func7, Tryd.ntmps7
  refine wp_seq ?_
  refine wp_region_L (W0 := w) [] (KS.start w) ?_
  refine lm (v := .bool false) rfl rfl ?_
  refine wpL_done (fun W1 hW1 => ?_)
  refine (show Code.wp _ _ _ _ _ from ?_)
  refine wp_seq ?_
  refine wp_region_L (W0 := w) [] (hW1) ?_
  refine lm (v := .slice p0 l0.length c0) rfl rfl ?_
  refine wpL_c (f := 24) (args := #[.slice p0 l0.length c0]) (fun v K9 => ∃ Kl, OwnL w 26 9 v (loadedX l0).length (bcs (loadedX l0)) Kl ∧ (∀ p ∈ ([] : List (Nat × Obj)), ∀ q ∈ Kl, q.1 ≠ p.1) ∧ K9 = [] ++ Kl) rfl (by kernel_rfl) (fun _ => (by kernel_rfl)) (fun W hW => calls_out hW (Loaded_any l0 p0 c0 hok0 hll0 hc0 W (HB0.out.keep hW.1))) (fun _ => by simp only [List.setIfInBounds_toArray, List.set_cons_succ, List.set_cons_zero] <;> rfl) ?_
  rintro v1 Kl1 ⟨_, O1, N1, rfl⟩
  refine lm (v := .slice p1 l1.length c1) rfl rfl ?_
  refine wpL_c (f := 24) (args := #[.slice p1 l1.length c1]) (fun v K9 => ∃ Kl, OwnL w 26 9 v (loadedX l1).length (bcs (loadedX l1)) Kl ∧ (∀ p ∈ (Kl1 : List (Nat × Obj)), ∀ q ∈ Kl, q.1 ≠ p.1) ∧ K9 = Kl1 ++ Kl) rfl (by kernel_rfl) (fun _ => (by kernel_rfl)) (fun W hW => calls_out hW (Loaded_any l1 p1 c1 hok1 hll1 hc1 W (HB1.out.keep hW.1))) (fun _ => by simp only [List.setIfInBounds_toArray, List.set_cons_succ, List.set_cons_zero] <;> rfl) ?_
  rintro v2 K9 ⟨Kl2, O2, N2, rfl⟩
  obtain dj3_0 : Dj Kl1 Kl2 := by simpa only [dj_app_l, dj_app_r, dj_cons_l, dj_cons_r, dj_nil_l, dj_nil_r, dk_app, dk_cons, dk_nil, and_true, true_and, and_assoc] using (show Dj Kl1 Kl2 from N2)
  refine lm (v := v1) rfl rfl ?_
  refine lm (v := v2) rfl rfl ?_
  refine wpL_done (fun W2 hW2 => ?_)
  refine (show Code.wp _ _ _ _ _ from ?_)
  refine wp_seq ?_
  refine wp_region_L (W0 := w) (Kl1 ++ Kl2) (hW2) ?_
  refine wpL_new (fun g => .slice (some ⟨g, 0, none⟩) 0 0) (obi := .cells #[] 26 (0, 0)) rfl rfl (fun _ => by kernel_rfl) (fun _ => by simp only [List.setIfInBounds_toArray, List.set_cons_succ, List.set_cons_zero] <;> rfl) fun g4 Bg4 Fg4 => ?_
  obtain ⟨dj5_0, dj5_1⟩ : Dk g4 Kl1 ∧ Dk g4 Kl2 := by simpa only [dj_app_l, dj_app_r, dj_cons_l, dj_cons_r, dj_nil_l, dj_nil_r, dk_app, dk_cons, dk_nil, and_true, true_and, and_assoc] using (show Dk g4 (Kl1 ++ Kl2) from Fg4)
  refine lm (v := v1) rfl rfl ?_
  obtain ⟨p6, c6, rfl, hc6, HB6⟩ := own_bs O1
  refine wpL_g (AppO w 26 9 (Kl1 ++ Kl2) (0 + ((loadedX l0).length)) ((bcs []) ++ (bcs (loadedX l0)))) rfl rfl (app_any el_bx (m := ((loadedX l0).length)) (news := (bcs (loadedX l0))) rfl (by kernel_rfl) (by kernel_rfl) (src_bs (c := c6) Tryd.underlying22 (HB6.mono (fun p hp => by simp only [List.mem_cons, List.mem_append, List.nil_append, List.not_mem_nil, or_assoc, or_false, false_or, hp, true_or, or_true])) rfl) (own_bnone Bg4) (fun p hp => by cases List.mem_singleton.1 hp; exact (.head _)) (fun p hp => ⟨by simp only [List.mem_cons, List.mem_append, List.nil_append, List.not_mem_nil, or_assoc, or_false, false_or] at hp ⊢ <;> grind, (show Dj (Kl1 ++ Kl2) [(g4, .cells #[] 26 (0, 0))] from (by (try simp only [dj_app_l, dj_app_r, dj_cons_l, dj_cons_r, dj_nil_l, dj_nil_r, dk_app, dk_cons, dk_nil, and_true, true_and, and_assoc]); repeat' (first | trivial | assumption | exact Dj.symm (by assumption) | exact Ne.symm (by assumption) | apply And.intro))) p hp⟩) (by omega) (by omega)) (fun _ => by simp only [List.setIfInBounds_toArray, List.set_cons_succ, List.set_cons_zero] <;> rfl) ?_
  rintro v7 K9 ⟨Kl7, O7, N7, rfl⟩
  replace O7 : OwnL w 26 9 v7 ((loadedX l0).length) (bcs (loadedX l0)) Kl7 := by rw [Nat.zero_add] at O7; exact O7
  obtain ⟨dj8_0, dj8_1⟩ : Dj Kl1 Kl7 ∧ Dj Kl2 Kl7 := by simpa only [dj_app_l, dj_app_r, dj_cons_l, dj_cons_r, dj_nil_l, dj_nil_r, dk_app, dk_cons, dk_nil, and_true, true_and, and_assoc] using (show Dj (Kl1 ++ Kl2) Kl7 from N7)
  refine lm (v := v2) rfl rfl ?_
  obtain ⟨p9, c9, rfl, hc9, HB9⟩ := own_bs O2
  refine wpL_g (AppO w 26 9 (Kl1 ++ Kl2) (((loadedX l0).length) + ((loadedX l1).length)) ((bcs (loadedX l0)) ++ (bcs (loadedX l1)))) rfl rfl (app_any el_bx (m := ((loadedX l1).length)) (news := (bcs (loadedX l1))) rfl (by kernel_rfl) (by kernel_rfl) (src_bs (c := c9) Tryd.underlying22 (HB9.mono (fun p hp => by simp only [List.mem_cons, List.mem_append, List.nil_append, List.not_mem_nil, or_assoc, or_false, false_or, hp, true_or, or_true])) rfl) O7 (fun p hp => by simp only [List.mem_cons, List.mem_append, List.nil_append, List.not_mem_nil, or_assoc, or_false, false_or, hp, or_true, true_or]) (fun p hp => ⟨by simp only [List.mem_cons, List.mem_append, List.nil_append, List.not_mem_nil, or_assoc, or_false, false_or] at hp ⊢ <;> grind, (show Dj (Kl1 ++ Kl2) Kl7 from (by (try simp only [dj_app_l, dj_app_r, dj_cons_l, dj_cons_r, dj_nil_l, dj_nil_r, dk_app, dk_cons, dk_nil, and_true, true_and, and_assoc]); repeat' (first | trivial | assumption | exact Dj.symm (by assumption) | exact Ne.symm (by assumption) | apply And.intro))) p hp⟩) (by omega) (by omega)) (fun _ => by simp only [List.setIfInBounds_toArray, List.set_cons_succ, List.set_cons_zero] <;> rfl) ?_
  rintro v10 K9 ⟨Kl10, O10, N10, rfl⟩
  replace O10 : OwnL w 26 9 v10 ((loadedX l0) ++ (loadedX l1)).length (bcs ((loadedX l0) ++ (loadedX l1))) Kl10 := by rw [bcs_app, List.length_append]; exact O10
  obtain ⟨dj11_0, dj11_1⟩ : Dj Kl1 Kl10 ∧ Dj Kl2 Kl10 := by simpa only [dj_app_l, dj_app_r, dj_cons_l, dj_cons_r, dj_nil_l, dj_nil_r, dk_app, dk_cons, dk_nil, and_true, true_and, and_assoc] using (show Dj (Kl1 ++ Kl2) Kl10 from N10)
  refine lm (v := v10) rfl rfl ?_
  refine wpL_done (fun W3 hW3 => ?_)
  refine (show Code.wp _ _ _ _ _ from ?_)
  refine wp_seq ?_
  refine wp_region_L (W0 := w) ((Kl1 ++ Kl2) ++ Kl10) (hW3) ?_
  refine wpL_new (fun g => .slice (some ⟨g, 0, none⟩) 0 0) (obi := .cells #[] 26 (0, 0)) rfl rfl (fun _ => by kernel_rfl) (fun _ => by simp only [List.setIfInBounds_toArray, List.set_cons_succ, List.set_cons_zero] <;> rfl) fun g12 Bg12 Fg12 => ?_
  obtain ⟨dj13_0, dj13_1, dj13_2⟩ : Dk g12 Kl1 ∧ Dk g12 Kl2 ∧ Dk g12 Kl10 := by simpa only [dj_app_l, dj_app_r, dj_cons_l, dj_cons_r, dj_nil_l, dj_nil_r, dk_app, dk_cons, dk_nil, and_true, true_and, and_assoc] using (show Dk g12 ((Kl1 ++ Kl2) ++ Kl10) from Fg12)
  refine lm (v := .slice p9 ((loadedX l1).length) c9) rfl rfl ?_
  refine wpL_g (AppO w 26 9 (Kl1 ++ (Kl2 ++ Kl10)) (0 + ((loadedX l1).length)) ((bcs []) ++ (bcs (loadedX l1)))) rfl rfl (app_any el_bx (m := ((loadedX l1).length)) (news := (bcs (loadedX l1))) rfl (by kernel_rfl) (by kernel_rfl) (src_bs (c := c9) Tryd.underlying22 (HB9.mono (fun p hp => by simp only [List.mem_cons, List.mem_append, List.nil_append, List.not_mem_nil, or_assoc, or_false, false_or, hp, true_or, or_true])) rfl) (own_bnone Bg12) (fun p hp => by cases List.mem_singleton.1 hp; exact (.head _)) (fun p hp => ⟨by simp only [List.mem_cons, List.mem_append, List.nil_append, List.not_mem_nil, or_assoc, or_false, false_or] at hp ⊢ <;> grind, (show Dj (Kl1 ++ (Kl2 ++ Kl10)) [(g12, .cells #[] 26 (0, 0))] from (by (try simp only [dj_app_l, dj_app_r, dj_cons_l, dj_cons_r, dj_nil_l, dj_nil_r, dk_app, dk_cons, dk_nil, and_true, true_and, and_assoc]); repeat' (first | trivial | assumption | exact Dj.symm (by assumption) | exact Ne.symm (by assumption) | apply And.intro))) p hp⟩) (by omega) (by omega)) (fun _ => by simp only [List.setIfInBounds_toArray, List.set_cons_succ, List.set_cons_zero] <;> rfl) ?_
  rintro v14 K9 ⟨Kl14, O14, N14, rfl⟩
  replace O14 : OwnL w 26 9 v14 ((loadedX l1).length) (bcs (loadedX l1)) Kl14 := by rw [Nat.zero_add] at O14; exact O14
  obtain ⟨dj15_0, dj15_1, dj15_2⟩ : Dj Kl1 Kl14 ∧ Dj Kl2 Kl14 ∧ Dj Kl10 Kl14 := by simpa only [dj_app_l, dj_app_r, dj_cons_l, dj_cons_r, dj_nil_l, dj_nil_r, dk_app, dk_cons, dk_nil, and_true, true_and, and_assoc] using (show Dj (Kl1 ++ (Kl2 ++ Kl10)) Kl14 from N14)
  refine lm (v := .slice p6 ((loadedX l0).length) c6) rfl rfl ?_
  refine wpL_g (AppO w 26 9 (Kl1 ++ (Kl2 ++ Kl10)) (((loadedX l1).length) + ((loadedX l0).length)) ((bcs (loadedX l1)) ++ (bcs (loadedX l0)))) rfl rfl (app_any el_bx (m := ((loadedX l0).length)) (news := (bcs (loadedX l0))) rfl (by kernel_rfl) (by kernel_rfl) (src_bs (c := c6) Tryd.underlying22 (HB6.mono (fun p hp => by simp only [List.mem_cons, List.mem_append, List.nil_append, List.not_mem_nil, or_assoc, or_false, false_or, hp, true_or, or_true])) rfl) O14 (fun p hp => by simp only [List.mem_cons, List.mem_append, List.nil_append, List.not_mem_nil, or_assoc, or_false, false_or, hp, or_true, true_or]) (fun p hp => ⟨by simp only [List.mem_cons, List.mem_append, List.nil_append, List.not_mem_nil, or_assoc, or_false, false_or] at hp ⊢ <;> grind, (show Dj (Kl1 ++ (Kl2 ++ Kl10)) Kl14 from (by (try simp only [dj_app_l, dj_app_r, dj_cons_l, dj_cons_r, dj_nil_l, dj_nil_r, dk_app, dk_cons, dk_nil, and_true, true_and, and_assoc]); repeat' (first | trivial | assumption | exact Dj.symm (by assumption) | exact Ne.symm (by assumption) | apply And.intro))) p hp⟩) (by omega) (by omega)) (fun _ => by simp only [List.setIfInBounds_toArray, List.set_cons_succ, List.set_cons_zero] <;> rfl) ?_
  rintro v16 K9 ⟨Kl16, O16, N16, rfl⟩
  replace O16 : OwnL w 26 9 v16 ((loadedX l1) ++ (loadedX l0)).length (bcs ((loadedX l1) ++ (loadedX l0))) Kl16 := by rw [bcs_app, List.length_append]; exact O16
  obtain ⟨dj17_0, dj17_1, dj17_2⟩ : Dj Kl1 Kl16 ∧ Dj Kl2 Kl16 ∧ Dj Kl10 Kl16 := by simpa only [dj_app_l, dj_app_r, dj_cons_l, dj_cons_r, dj_nil_l, dj_nil_r, dk_app, dk_cons, dk_nil, and_true, true_and, and_assoc] using (show Dj (Kl1 ++ (Kl2 ++ Kl10)) Kl16 from N16)
  refine lm (v := v16) rfl rfl ?_
  refine wpL_done (fun W4 hW4 => ?_)
  refine (show Code.wp _ _ _ _ _ from ?_)
  refine wp_seq ?_
  refine wp_region_L (W0 := w) ((Kl1 ++ (Kl2 ++ Kl10)) ++ Kl16) (hW4) ?_
  refine lm (v := .slice p6 ((loadedX l0).length) c6) rfl rfl ?_
  refine lv (v := smV (totalX (loadedX l0))) rfl rfl (yb_call (f := 26) (args := #[.slice p6 ((loadedX l0).length) c6]) (fun _ => by kernel_rfl) fun W hW => Total_any (loadedX l0) p6 c6 (by first | omega | (simp; done) | (simp; omega) | decide) W (HB6 W (hW.sub (fun p hp => by simp only [List.mem_cons, List.mem_append, List.nil_append, List.not_mem_nil, or_assoc, or_false, false_or, hp, true_or, or_true])))) ?_
  refine lm (v := .slice p9 ((loadedX l1).length) c9) rfl rfl ?_
  refine lv (v := smV (totalX (loadedX l1))) rfl rfl (yb_call (f := 26) (args := #[.slice p9 ((loadedX l1).length) c9]) (fun _ => by kernel_rfl) fun W hW => Total_any (loadedX l1) p9 c9 (by first | omega | (simp; done) | (simp; omega) | decide) W (HB9 W (hW.sub (fun p hp => by simp only [List.mem_cons, List.mem_append, List.nil_append, List.not_mem_nil, or_assoc, or_false, false_or, hp, true_or, or_true])))) ?_
  refine lv (v := smV (plusX (totalX (loadedX l0)) (totalX (loadedX l1)))) rfl rfl (yb_call (f := 25) (args := #[smV (totalX (loadedX l0)), smV (totalX (loadedX l1))]) (fun _ => by kernel_rfl) fun W hW => plus_any (totalX (loadedX l0)) (totalX (loadedX l1)) (sum_le_small (by first | omega | (simp only [List.length_set]; omega) | (simp; done))) (sum_le_small (by first | omega | (simp only [List.length_set]; omega) | (simp; done))) W) ?_
  refine wpL_new (fun g => .pointer (some ⟨g, 0, none⟩)) (obi := .cells #[.int .i64 0, .int .i64 0, .int .i64 0, .int .i64 0, .int .i64 0] 47 (0, 0)) rfl rfl (fun _ => by kernel_rfl) (fun _ => by simp only [List.setIfInBounds_toArray, List.set_cons_succ, List.set_cons_zero] <;> rfl) fun g18 Bg18 Fg18 => ?_
  obtain ⟨dj19_0, dj19_1, dj19_2, dj19_3⟩ : Dk g18 Kl1 ∧ Dk g18 Kl2 ∧ Dk g18 Kl10 ∧ Dk g18 Kl16 := by simpa only [dj_app_l, dj_app_r, dj_cons_l, dj_cons_r, dj_nil_l, dj_nil_r, dk_app, dk_cons, dk_nil, and_true, true_and, and_assoc] using (show Dk g18 ((Kl1 ++ (Kl2 ++ Kl10)) ++ Kl16) from Fg18)
  refine wpL_s ((g18, .cells (smC (plusX (totalX (loadedX l0)) (totalX (loadedX l1)))) 47 (0, 0)) :: ((Kl1 ++ (Kl2 ++ Kl10)) ++ Kl16)) rfl rfl (st_row (off := 0) (v := smV (plusX (totalX (loadedX l0)) (totalX (loadedX l1)))) rfl (by kernel_rfl) (by kernel_rfl) (.head _) Bg18 (by kernel_rfl) (Nat.le_refl 5) (sm_one (plusX (totalX (loadedX l0)) (totalX (loadedX l1)))) (by kernel_rfl) (List.forall_mem_cons.2 ⟨.inl rfl, (fun p hp => .inr ⟨(.tail _ hp), ((show Dk g18 ((Kl1 ++ (Kl2 ++ Kl10)) ++ Kl16) from (by (try simp only [dj_app_l, dj_app_r, dj_cons_l, dj_cons_r, dj_nil_l, dj_nil_r, dk_app, dk_cons, dk_nil, and_true, true_and, and_assoc]); repeat' (first | trivial | assumption | exact Dj.symm (by assumption) | exact Ne.symm (by assumption) | apply And.intro))) _ hp)⟩)⟩)) ?_
  refine wpL_done (fun W5 hW5 => ?_)
  refine (show Code.wp _ _ _ _ _ from ?_)
  refine wp_seq ?_
  refine wp_seq ?_
  refine wp_region_V (W0 := w) ((g18, .cells (smC (plusX (totalX (loadedX l0)) (totalX (loadedX l1)))) 47 (0, 0)) :: ((Kl1 ++ (Kl2 ++ Kl10)) ++ Kl16)) (by kernel_rfl) (hW5) ?_
  refine vm (i := 0) (v := v10) rfl rfl rfl ?_
  obtain ⟨p20, c20, rfl, hc20, HB20⟩ := own_bs O10
  refine vv (i := 1) (v := smV (totalX ((loadedX l0) ++ (loadedX l1)))) rfl rfl rfl (yb_call (f := 26) (args := #[.slice p20 (((loadedX l0) ++ (loadedX l1)).length) c20]) (fun _ => by kernel_rfl) fun W hW => Total_any ((loadedX l0) ++ (loadedX l1)) p20 c20 (by first | omega | (simp; done) | (simp; omega) | decide) W (HB20 W (hW.sub (fun p hp => by simp only [List.mem_cons, List.mem_append, List.nil_append, List.not_mem_nil, or_assoc, or_false, false_or, hp, true_or, or_true])))) ?_
  refine vv (i := 2) (v := smV (plusX (totalX (loadedX l0)) (totalX (loadedX l1)))) rfl rfl rfl (yb_load (n := 5) (off := 0) rfl (by kernel_rfl) (.head _) Tryd.underlying47 rfl (by kernel_rfl) (Nat.le_refl 5) (by kernel_rfl)) ?_
  refine vp (i := 3) (v := .bool false) rfl rfl rfl (run_bin rfl (vx := smV (totalX ((loadedX l0) ++ (loadedX l1)))) (vy := smV (plusX (totalX (loadedX l0)) (totalX (loadedX l1)))) (by kernel_rfl) (by kernel_rfl) fun w => neq_sm (decide_eq_true (total_app _ _)) w) ?_
  refine vm (i := 4) (v := .bool false) rfl rfl rfl ?_
  refine vm (i := 5) (v := v16) rfl rfl rfl ?_
  obtain ⟨p21, c21, rfl, hc21, HB21⟩ := own_bs O16
  refine vv (i := 6) (v := smV (totalX ((loadedX l1) ++ (loadedX l0)))) rfl rfl rfl (yb_call (f := 26) (args := #[.slice p21 (((loadedX l1) ++ (loadedX l0)).length) c21]) (fun _ => by kernel_rfl) fun W hW => Total_any ((loadedX l1) ++ (loadedX l0)) p21 c21 (by first | omega | (simp; done) | (simp; omega) | decide) W (HB21 W (hW.sub (fun p hp => by simp only [List.mem_cons, List.mem_append, List.nil_append, List.not_mem_nil, or_assoc, or_false, false_or, hp, true_or, or_true])))) ?_
  refine vv (i := 7) (v := smV (plusX (totalX (loadedX l0)) (totalX (loadedX l1)))) rfl rfl rfl (yb_load (n := 5) (off := 0) rfl (by kernel_rfl) (.head _) Tryd.underlying47 rfl (by kernel_rfl) (Nat.le_refl 5) (by kernel_rfl)) ?_
  refine vp (i := 8) (v := .bool false) rfl rfl rfl (run_bin rfl (vx := smV (totalX ((loadedX l1) ++ (loadedX l0)))) (vy := smV (plusX (totalX (loadedX l0)) (totalX (loadedX l1)))) (by kernel_rfl) (by kernel_rfl) fun w => neq_sm (decide_eq_true ((total_app _ _).trans (plus_comm _ _))) w) ?_
  refine vm (i := 9) (v := .bool false) rfl rfl rfl ?_
  refine vm (i := 10) (v := .bool false) rfl rfl rfl ?_
  refine vm (i := 11) (v := .pointer (some ⟨g18, 0, none⟩)) rfl rfl rfl ?_
  refine vv (i := 12) (v := .int .i64 ((((plusX (totalX (loadedX l0)) (totalX (loadedX l1))).n) : Nat) : Int)) rfl rfl rfl (yb_cell (off := 0) rfl (by kernel_rfl) (.head _) Tryd.underlying3 rfl (by kernel_rfl)) ?_
  refine vm (i := 13) (v := .slice p20 (((loadedX l0) ++ (loadedX l1)).length) c20) rfl rfl rfl ?_
  refine vp (i := 14) (v := .int .i64 (((((loadedX l0) ++ (loadedX l1)).length) : Nat) : Int)) rfl rfl rfl (run_lenL (p := p20) (cap := c20) (n := (((loadedX l0) ++ (loadedX l1)).length)) rfl Tryd.underlying22 (by kernel_rfl)) ?_
  refine vp (i := 15) (v := .bool false) rfl rfl rfl (run_bin rfl (vx := (.int .i64 ((((plusX (totalX (loadedX l0)) (totalX (loadedX l1))).n) : Nat) : Int))) (vy := (.int .i64 (((((loadedX l0) ++ (loadedX l1)).length) : Nat) : Int))) (by kernel_rfl) (by kernel_rfl) fun w => bn_neq (decide_eq_true (by rw [← total_app]; exact total_n (fun b hb => (List.mem_append.1 hb).elim (hra0 b) (hra1 b)))) w) ?_
  refine vm (i := 16) (v := .bool false) rfl rfl rfl ?_
  refine wpV_done (by kernel_rfl) (fun W6 hW6 => ?_) _
  refine (show Code.wp _ _ _ _ _ from ?_)
  refine wp_cond_false rfl ?_
  refine wp_skip ?_
  refine (show Code.wp _ _ _ _ _ from ?_)
  refine wp_seq ?_
  refine wp_seq ?_
  refine wp_region_L (W0 := w) ((g18, .cells (smC (plusX (totalX (loadedX l0)) (totalX (loadedX l1)))) 47 (0, 0)) :: ((Kl1 ++ (Kl2 ++ Kl10)) ++ Kl16)) (hW6) ?_
  refine lm (v := .slice p20 (((loadedX l0) ++ (loadedX l1)).length) c20) rfl rfl ?_
  refine lp (v := .int .i64 (((((loadedX l0) ++ (loadedX l1)).length) : Nat) : Int)) rfl rfl (run_lenL (p := p20) (cap := c20) (n := (((loadedX l0) ++ (loadedX l1)).length)) rfl Tryd.underlying22 (by kernel_rfl)) ?_
  refine lp (v := .bool (decide (0 < (((loadedX l0) ++ (loadedX l1)).length)))) rfl rfl (run_bin rfl (vx := (.int .i64 (((((loadedX l0) ++ (loadedX l1)).length) : Nat) : Int))) (vy := (.int .i64 ((0 : Nat) : Int))) (by kernel_rfl) (by kernel_rfl) fun w => bn_gtr rfl w) ?_
  refine wpL_done (fun W7 hW7 => ?_)
  refine (show Code.wp _ _ _ _ _ from ?_)
  cases hd1 : (decide (0 < (((loadedX l0) ++ (loadedX l1)).length))) with
  | false =>
    have h1 : ¬ (0 < (((loadedX l0) ++ (loadedX l1)).length)) := of_decide_eq_false hd1
    clear hd1
    refine wp_cond_false rfl ?_
    refine wp_skip ?_
    refine (show Code.wp _ _ _ _ _ from ?_)
    refine wp_seq ?_
    refine wp_region_L (W0 := w) ((g18, .cells (smC (plusX (totalX (loadedX l0)) (totalX (loadedX l1)))) 47 (0, 0)) :: ((Kl1 ++ (Kl2 ++ Kl10)) ++ Kl16)) (hW7) ?_
    refine lv (v := .bool true) rfl rfl (yb_call (f := 12) (args := #[]) (fun _ => by kernel_rfl) fun W hW => awake_any W (HE.out.keep hW.1)) ?_
    refine lm (v := .bool true) rfl rfl ?_
    refine wpL_done (fun W8 hW8 => ?_)
    refine (show Code.wp _ _ _ _ _ from ?_)
    refine wp_ret ?_
    try simp only [inBlock_ret, then_ret]
    refine bodyPost_ret (v := .bool true) ?_ rfl ?_
    · kernel_rfl
    · exact ⟨rfl, hW8.1⟩
  | true =>
    have h1 : 0 < (((loadedX l0) ++ (loadedX l1)).length) := of_decide_eq_true hd1
    clear hd1
    have hmod := Nat.mod_lt at_ h1
    obtain ⟨bi, hbi⟩ : ∃ bz, ((loadedX l0) ++ (loadedX l1))[(at_ % ((loadedX l0) ++ (loadedX l1)).length)]? = some bz := ⟨_, List.getElem?_eq_getElem hmod⟩
    have hrbi := mem_app hra0 hra1 hbi
    have hkbi := right_kilos hrbi
    refine wp_cond_true rfl ?_
    refine wp_seq ?_
    refine wp_region_L (W0 := w) ((g18, .cells (smC (plusX (totalX (loadedX l0)) (totalX (loadedX l1)))) 47 (0, 0)) :: ((Kl1 ++ (Kl2 ++ Kl10)) ++ Kl16)) (hW7) ?_
    refine lm (v := .int .u8 ((at_ : Nat) : Int)) rfl rfl ?_
    refine lp (v := .int .i64 ((at_ : Nat) : Int)) rfl rfl (run_conv rfl (vx := (.int .u8 ((at_ : Nat) : Int))) (by kernel_rfl) fun w => cv_int Tryd.underlying5 Tryd.underlying3 (wr_i64 (by omega)) w) ?_
    refine lm (v := .slice p20 (((loadedX l0) ++ (loadedX l1)).length) c20) rfl rfl ?_
    refine lp (v := .int .i64 (((((loadedX l0) ++ (loadedX l1)).length) : Nat) : Int)) rfl rfl (run_lenL (p := p20) (cap := c20) (n := (((loadedX l0) ++ (loadedX l1)).length)) rfl Tryd.underlying22 (by kernel_rfl)) ?_
    refine lp (v := .int .i64 (((at_ % (((loadedX l0) ++ (loadedX l1)).length)) : Nat) : Int)) rfl rfl (run_bin rfl (vx := (.int .i64 ((at_ : Nat) : Int))) (vy := (.int .i64 (((((loadedX l0) ++ (loadedX l1)).length) : Nat) : Int))) (by kernel_rfl) (by kernel_rfl) fun w => bn_rem (z := (at_ % (((loadedX l0) ++ (loadedX l1)).length))) rfl (by omega) w) ?_
    refine lm (v := .int .i64 (((at_ % (((loadedX l0) ++ (loadedX l1)).length)) : Nat) : Int)) rfl rfl ?_
    refine wpL_done (fun W9 hW9 => ?_)
    refine (show Code.wp _ _ _ _ _ from ?_)
    refine wp_seq ?_
    refine wp_region_L (W0 := w) ((g18, .cells (smC (plusX (totalX (loadedX l0)) (totalX (loadedX l1)))) 47 (0, 0)) :: ((Kl1 ++ (Kl2 ++ Kl10)) ++ Kl16)) (hW9) ?_
    refine lm (v := .slice p20 (((loadedX l0) ++ (loadedX l1)).length) c20) rfl rfl ?_
    refine lm (v := .int .i64 (((at_ % (((loadedX l0) ++ (loadedX l1)).length)) : Nat) : Int)) rfl rfl ?_
    refine lm (v := .int .i64 (((at_ % (((loadedX l0) ++ (loadedX l1)).length)) : Nat) : Int)) rfl rfl ?_
    refine lp (v := .int .i64 ((((at_ % (((loadedX l0) ++ (loadedX l1)).length)) + 1) : Nat) : Int)) rfl rfl (run_bin rfl (vx := (.int .i64 (((at_ % (((loadedX l0) ++ (loadedX l1)).length)) : Nat) : Int))) (vy := (.int .i64 ((1 : Nat) : Int))) (by kernel_rfl) (by kernel_rfl) fun w => bn_add (z := ((at_ % (((loadedX l0) ++ (loadedX l1)).length)) + 1)) rfl (wr_i64 (by omega)) w) ?_
    have HBi := (one_at hbi) ▸ (bs_cut c20 (at_ % ((loadedX l0) ++ (loadedX l1)).length) (bs_take ((at_ % ((loadedX l0) ++ (loadedX l1)).length) + 1) HB20) (by rw [List.length_take]; omega))
    refine lp (v := .slice (cutQ p20 c20 (at_ % ((loadedX l0) ++ (loadedX l1)).length) 9) 1 (c20 - (at_ % ((loadedX l0) ++ (loadedX l1)).length))) rfl rfl (fun w => (run_slm (p := p20) (n := (((loadedX l0) ++ (loadedX l1)).length)) (c := c20) (i := (at_ % (((loadedX l0) ++ (loadedX l1)).length))) (j := ((at_ % (((loadedX l0) ++ (loadedX l1)).length)) + 1)) (k1 := .i64) (k2 := .i64) (sz := 9) rfl Tryd.underlying22 (by kernel_rfl) (by kernel_rfl) (by kernel_rfl) (by kernel_rfl) (by omega) (by omega) w).trans (by rw [show ((at_ % ((loadedX l0) ++ (loadedX l1)).length) + 1) - (at_ % ((loadedX l0) ++ (loadedX l1)).length) = 1 from by omega])) ?_
    refine lv (v := smV (totalX [bi])) rfl rfl (yb_call (f := 26) (args := #[.slice (cutQ p20 c20 (at_ % ((loadedX l0) ++ (loadedX l1)).length) 9) 1 (c20 - (at_ % ((loadedX l0) ++ (loadedX l1)).length))]) (fun _ => by kernel_rfl) fun W hW => Total_any [bi] (cutQ p20 c20 (at_ % ((loadedX l0) ++ (loadedX l1)).length) 9) (c20 - (at_ % ((loadedX l0) ++ (loadedX l1)).length)) (by first | omega | (simp; done) | (simp; omega) | decide) W (HBi W (hW.sub (fun p hp => by simp only [List.mem_cons, List.mem_append, List.nil_append, List.not_mem_nil, or_assoc, or_false, false_or, hp, true_or, or_true])))) ?_
    refine wpL_new (fun g => .pointer (some ⟨g, 0, none⟩)) (obi := .cells #[.int .i64 0, .int .i64 0, .int .i64 0, .int .i64 0, .int .i64 0] 47 (0, 0)) rfl rfl (fun _ => by kernel_rfl) (fun _ => by simp only [List.setIfInBounds_toArray, List.set_cons_succ, List.set_cons_zero] <;> rfl) fun g22 Bg22 Fg22 => ?_
    obtain ⟨dj23_0, dj23_1, dj23_2, dj23_3, dj23_4⟩ : g18 ≠ g22 ∧ Dk g22 Kl1 ∧ Dk g22 Kl2 ∧ Dk g22 Kl10 ∧ Dk g22 Kl16 := by simpa only [dj_app_l, dj_app_r, dj_cons_l, dj_cons_r, dj_nil_l, dj_nil_r, dk_app, dk_cons, dk_nil, and_true, true_and, and_assoc] using (show Dk g22 ((g18, .cells (smC (plusX (totalX (loadedX l0)) (totalX (loadedX l1)))) 47 (0, 0)) :: ((Kl1 ++ (Kl2 ++ Kl10)) ++ Kl16)) from Fg22)
    refine wpL_s ((g22, .cells (smC (totalX [bi])) 47 (0, 0)) :: (g18, .cells (smC (plusX (totalX (loadedX l0)) (totalX (loadedX l1)))) 47 (0, 0)) :: ((Kl1 ++ (Kl2 ++ Kl10)) ++ Kl16)) rfl rfl (st_row (off := 0) (v := smV (totalX [bi])) rfl (by kernel_rfl) (by kernel_rfl) (.head _) Bg22 (by kernel_rfl) (Nat.le_refl 5) (sm_one (totalX [bi])) (by kernel_rfl) (List.forall_mem_cons.2 ⟨.inl rfl, (List.forall_mem_cons.2 ⟨.inr ⟨(.tail _ (.head _)), (by first | assumption | exact Ne.symm (by assumption))⟩, (fun p hp => .inr ⟨(.tail _ (.tail _ hp)), ((show Dk g22 ((Kl1 ++ (Kl2 ++ Kl10)) ++ Kl16) from (by (try simp only [dj_app_l, dj_app_r, dj_cons_l, dj_cons_r, dj_nil_l, dj_nil_r, dk_app, dk_cons, dk_nil, and_true, true_and, and_assoc]); repeat' (first | trivial | assumption | exact Dj.symm (by assumption) | exact Ne.symm (by assumption) | apply And.intro))) _ hp)⟩)⟩)⟩)) ?_
    refine wpL_done (fun W10 hW10 => ?_)
    refine (show Code.wp _ _ _ _ _ from ?_)
    refine wp_seq ?_
    obtain ⟨go24, co24, cu24, rq24, Bo24, Ro24, rk24⟩ := own_some O10 h1
    cases rq24
    subst rk24
    have dk24_0 : Dk go24 Kl1 := by have h : Dj Kl1 [(go24, .cells cu24 26 (0, 0))] := (by first | assumption | exact Dj.symm (by assumption)); simpa only [dj_app_l, dj_app_r, dj_cons_l, dj_cons_r, dj_nil_l, dj_nil_r, dk_app, dk_cons, dk_nil, and_true, true_and, and_assoc] using h
    have dk24_1 : Dk go24 Kl2 := by have h : Dj Kl2 [(go24, .cells cu24 26 (0, 0))] := (by first | assumption | exact Dj.symm (by assumption)); simpa only [dj_app_l, dj_app_r, dj_cons_l, dj_cons_r, dj_nil_l, dj_nil_r, dk_app, dk_cons, dk_nil, and_true, true_and, and_assoc] using h
    have dk24_2 : Dk go24 Kl16 := by have h : Dj Kl16 [(go24, .cells cu24 26 (0, 0))] := (by first | assumption | exact Dj.symm (by assumption)); simpa only [dj_app_l, dj_app_r, dj_cons_l, dj_cons_r, dj_nil_l, dj_nil_r, dk_app, dk_cons, dk_nil, and_true, true_and, and_assoc] using h
    have db24_0 : go24 ≠ g22 := by have h : Dk g22 [(go24, .cells cu24 26 (0, 0))] := (by assumption); simpa only [dj_app_l, dj_app_r, dj_cons_l, dj_cons_r, dj_nil_l, dj_nil_r, dk_app, dk_cons, dk_nil, and_true, true_and, and_assoc] using h
    have db24_1 : go24 ≠ g18 := by have h : Dk g18 [(go24, .cells cu24 26 (0, 0))] := (by assumption); simpa only [dj_app_l, dj_app_r, dj_cons_l, dj_cons_r, dj_nil_l, dj_nil_r, dk_app, dk_cons, dk_nil, and_true, true_and, and_assoc] using h
    refine wp_region_L (W0 := w) ((go24, .cells cu24 26 (0, 0)) :: (g22, .cells (smC (totalX [bi])) 47 (0, 0)) :: (g18, .cells (smC (plusX (totalX (loadedX l0)) (totalX (loadedX l1)))) 47 (0, 0)) :: (Kl1 ++ (Kl2 ++ Kl16))) ((hW10.sub (fun p hp => by simp only [List.mem_cons, List.mem_append, List.nil_append, List.not_mem_nil, or_assoc, or_false, false_or, List.cons_append, List.append_assoc] at hp ⊢ <;> grind))) ?_
    refine lm (v := .slice (some ⟨go24, 0, none⟩) (((loadedX l0) ++ (loadedX l1)).length) c20) rfl rfl ?_
    refine lm (v := .int .i64 (((at_ % (((loadedX l0) ++ (loadedX l1)).length)) : Nat) : Int)) rfl rfl ?_
    refine lm (v := .slice (some ⟨go24, 0, none⟩) (((loadedX l0) ++ (loadedX l1)).length) c20) rfl rfl ?_
    refine lm (v := .int .i64 (((at_ % (((loadedX l0) ++ (loadedX l1)).length)) : Nat) : Int)) rfl rfl ?_
    refine lp (v := .pointer (some ⟨go24, 0 + (at_ % (((loadedX l0) ++ (loadedX l1)).length)) * 9, none⟩)) rfl rfl (run_idxL (j := .i64) (n := (((loadedX l0) ++ (loadedX l1)).length)) (cap := c20) (b := go24) (off := 0) (k := (at_ % (((loadedX l0) ++ (loadedX l1)).length))) (sz := 9) rfl Tryd.underlying22 (by kernel_rfl) (by kernel_rfl) (by kernel_rfl) (by omega)) ?_
    refine lm (v := .pointer (some ⟨go24, 0 + (at_ % (((loadedX l0) ++ (loadedX l1)).length)) * 9 + 4, none⟩)) rfl rfl ?_
    refine lv (v := .int .i64 bi.kilos) rfl rfl (yb_cell (off := 0 + (at_ % (((loadedX l0) ++ (loadedX l1)).length)) * 9 + 4) rfl (by kernel_rfl) (.head _) Tryd.underlying3 rfl (RowX.get (rowx_own Ro24) hbi 4 _ rfl)) ?_
    refine lp (v := .int .i64 (-bi.kilos)) rfl rfl (run_un (v := .int .i64 (-bi.kilos)) rfl (by kernel_rfl) fun w => un_neg (by rw [show (0 : Int) - bi.kilos = (-bi.kilos) from by omega]; exact wi_i64 (by omega)) w) ?_
    refine lp (v := .pointer (some ⟨go24, 0 + (at_ % (((loadedX l0) ++ (loadedX l1)).length)) * 9, none⟩)) rfl rfl (run_idxL (j := .i64) (n := (((loadedX l0) ++ (loadedX l1)).length)) (cap := c20) (b := go24) (off := 0) (k := (at_ % (((loadedX l0) ++ (loadedX l1)).length))) (sz := 9) rfl Tryd.underlying22 (by kernel_rfl) (by kernel_rfl) (by kernel_rfl) (by omega)) ?_
    refine lm (v := .pointer (some ⟨go24, 0 + (at_ % (((loadedX l0) ++ (loadedX l1)).length)) * 9 + 4, none⟩)) rfl rfl ?_
    obtain ⟨R25, Q25⟩ := RowX.putf (fo := 4) (b' := (Bx.mk bi.id bi.num bi.size bi.high (-bi.kilos) bi.load bi.dis bi.cls bi.rf)) (v := .int .i64 (-bi.kilos)) (rowx_own Ro24) hbi (by omega) rfl
    refine wpL_s ((go24, .cells (putF cu24 (0 + (at_ % (((loadedX l0) ++ (loadedX l1)).length)) * 9 + 4) (.int .i64 (-bi.kilos))) 26 (0, 0)) :: (g22, .cells (smC (totalX [bi])) 47 (0, 0)) :: (g18, .cells (smC (plusX (totalX (loadedX l0)) (totalX (loadedX l1)))) 47 (0, 0)) :: (Kl1 ++ (Kl2 ++ Kl16))) rfl rfl (st_fld (k := (at_ % (((loadedX l0) ++ (loadedX l1)).length))) (fo := 4) (v := .int .i64 (-bi.kilos)) rfl (by kernel_rfl) (by kernel_rfl) (.head _) Bo24 (by kernel_rfl) rfl rfl (rowx_own Ro24) (List.getElem?_eq_some_iff.1 hbi).1 (by omega) (List.forall_mem_cons.2 ⟨.inl rfl, (List.forall_mem_cons.2 ⟨.inr ⟨(.tail _ (.head _)), (by first | assumption | exact Ne.symm (by assumption))⟩, (List.forall_mem_cons.2 ⟨.inr ⟨(.tail _ (.tail _ (.head _))), (by first | assumption | exact Ne.symm (by assumption))⟩, (fun p hp => .inr ⟨(.tail _ (.tail _ (.tail _ hp))), ((show Dk go24 (Kl1 ++ (Kl2 ++ Kl16)) from (by (try simp only [dj_app_l, dj_app_r, dj_cons_l, dj_cons_r, dj_nil_l, dj_nil_r, dk_app, dk_cons, dk_nil, and_true, true_and, and_assoc]); repeat' (first | trivial | assumption | exact Dj.symm (by assumption) | exact Ne.symm (by assumption) | apply And.intro))) _ hp)⟩)⟩)⟩)⟩)) ?_
    refine wpL_done (fun W11 hW11 => ?_)
    refine (show Code.wp _ _ _ _ _ from ?_)
    refine wp_seq ?_
    have hlost := total_lost (b' := (Bx.mk bi.id bi.num bi.size bi.high (-bi.kilos) bi.load bi.dis bi.cls bi.rf)) hbi (wr_neg hrbi rfl)
    refine wp_region_V (W0 := w) ((go24, .cells (putF cu24 (0 + (at_ % (((loadedX l0) ++ (loadedX l1)).length)) * 9 + 4) (.int .i64 (-bi.kilos))) 26 (0, 0)) :: (g22, .cells (smC (totalX [bi])) 47 (0, 0)) :: (g18, .cells (smC (plusX (totalX (loadedX l0)) (totalX (loadedX l1)))) 47 (0, 0)) :: (Kl1 ++ (Kl2 ++ Kl16))) (by kernel_rfl) (hW11) ?_
    refine vm (i := 0) (v := .slice (some ⟨go24, 0, none⟩) (((loadedX l0) ++ (loadedX l1)).length) c20) rfl rfl rfl ?_
    have hfl26 : ((((loadedX l0) ++ (loadedX l1)).set (at_ % (((loadedX l0) ++ (loadedX l1)).length)) (Bx.mk bi.id bi.num bi.size bi.high (-bi.kilos) bi.load bi.dis bi.cls bi.rf)) : List Bx).length = (((loadedX l0) ++ (loadedX l1)).length) := by first | (simp only [List.length_set]; done) | (simp only [List.length_set, List.length_take]; omega) | omega
    refine vv (i := 1) (v := smV (totalX (((loadedX l0) ++ (loadedX l1)).set (at_ % (((loadedX l0) ++ (loadedX l1)).length)) (Bx.mk bi.id bi.num bi.size bi.high (-bi.kilos) bi.load bi.dis bi.cls bi.rf)))) rfl rfl rfl (yb_call (f := 26) (args := #[.slice (some ⟨go24, 0, none⟩) (((loadedX l0) ++ (loadedX l1)).length) c20]) (fun _ => by kernel_rfl) fun W hW => (by have h := Total_any (((loadedX l0) ++ (loadedX l1)).set (at_ % (((loadedX l0) ++ (loadedX l1)).length)) (Bx.mk bi.id bi.num bi.size bi.high (-bi.kilos) bi.load bi.dis bi.cls bi.rf)) (some ⟨go24, 0, none⟩) c20 (by first | omega | (simp; done) | (simp; omega) | decide) W (rowx_slv (hW.2 _ (.head _)) R25); rw [hfl26] at h; exact h)) ?_
    refine vv (i := 2) (v := smV (totalX [bi])) rfl rfl rfl (yb_load (n := 5) (off := 0) rfl (by kernel_rfl) (.tail _ (.head _)) Tryd.underlying47 rfl (by kernel_rfl) (Nat.le_refl 5) (by kernel_rfl)) ?_
    refine vv (i := 3) (v := smV (plusX (totalX (((loadedX l0) ++ (loadedX l1)).set (at_ % (((loadedX l0) ++ (loadedX l1)).length)) (Bx.mk bi.id bi.num bi.size bi.high (-bi.kilos) bi.load bi.dis bi.cls bi.rf))) (totalX [bi]))) rfl rfl rfl (yb_call (f := 25) (args := #[smV (totalX (((loadedX l0) ++ (loadedX l1)).set (at_ % (((loadedX l0) ++ (loadedX l1)).length)) (Bx.mk bi.id bi.num bi.size bi.high (-bi.kilos) bi.load bi.dis bi.cls bi.rf))), smV (totalX [bi])]) (fun _ => by kernel_rfl) fun W hW => plus_any (totalX (((loadedX l0) ++ (loadedX l1)).set (at_ % (((loadedX l0) ++ (loadedX l1)).length)) (Bx.mk bi.id bi.num bi.size bi.high (-bi.kilos) bi.load bi.dis bi.cls bi.rf))) (totalX [bi]) (sum_le_small (by first | omega | (simp only [List.length_set]; omega) | (simp; done))) (sum_le_small (by first | omega | (simp only [List.length_set]; omega) | (simp; done))) W) ?_
    refine vv (i := 4) (v := smV (plusX (totalX (loadedX l0)) (totalX (loadedX l1)))) rfl rfl rfl (yb_load (n := 5) (off := 0) rfl (by kernel_rfl) (.tail _ (.tail _ (.head _))) Tryd.underlying47 rfl (by kernel_rfl) (Nat.le_refl 5) (by kernel_rfl)) ?_
    refine vp (i := 5) (v := .bool false) rfl rfl rfl (run_bin rfl (vx := smV (plusX (totalX (((loadedX l0) ++ (loadedX l1)).set (at_ % (((loadedX l0) ++ (loadedX l1)).length)) (Bx.mk bi.id bi.num bi.size bi.high (-bi.kilos) bi.load bi.dis bi.cls bi.rf))) (totalX [bi]))) (vy := smV (plusX (totalX (loadedX l0)) (totalX (loadedX l1)))) (by kernel_rfl) (by kernel_rfl) fun w => neq_sm (decide_eq_true (hlost.trans (total_app _ _))) w) ?_
    refine wpV_done (by kernel_rfl) (fun W12 hW12 => ?_) _
    refine (show Code.wp _ _ _ _ _ from ?_)
    refine wp_cond_false rfl ?_
    refine wp_skip ?_
    refine (show Code.wp _ _ _ _ _ from ?_)
    refine wp_seq ?_
    refine wp_region_L (W0 := w) ((go24, .cells (putF cu24 (0 + (at_ % (((loadedX l0) ++ (loadedX l1)).length)) * 9 + 4) (.int .i64 (-bi.kilos))) 26 (0, 0)) :: (g22, .cells (smC (totalX [bi])) 47 (0, 0)) :: (g18, .cells (smC (plusX (totalX (loadedX l0)) (totalX (loadedX l1)))) 47 (0, 0)) :: (Kl1 ++ (Kl2 ++ Kl16))) (hW12) ?_
    refine lv (v := .bool true) rfl rfl (yb_call (f := 12) (args := #[]) (fun _ => by kernel_rfl) fun W hW => awake_any W (HE.out.keep hW.1)) ?_
    refine lm (v := .bool true) rfl rfl ?_
    refine wpL_done (fun W13 hW13 => ?_)
    refine (show Code.wp _ _ _ _ _ from ?_)
    refine wp_ret ?_
    try simp only [inBlock_ret, then_ret]
    refine bodyPost_ret (v := .bool true) ?_ rfl ?_
    · kernel_rfl
    · exact ⟨rfl, hW13.1⟩
end Go.Proofs.YtjbbeolapaaiaaaDoor
namespace Go.Proofs.YtjbbeolapaaiaaaDoor
open Go Go.RowKit Tw
theorem bad_take {l : List Bx} {m j : Nat} (h : j < m) : badX (l.take m) j = badX l j := by
  unfold badX
  rw [List.getElem?_take_of_lt h]
  cases hb : l[j]? with
  | none => rfl
  | some b =>
    have e1 : seenX (l.take m) j b.num = seenX l j b.num := by
      unfold seenX
      rw [List.take_take, Nat.min_eq_left (by omega)]
    have e2 : prevX (l.take m) j b = prevX l j b := by
      unfold prevX
      rw [List.getElem?_take_of_lt (by omega)]
    simp only [e1, e2]
theorem valid_none {l : List Bx} (hl : l.length ≤ 2000) (h : ∀ j, j < l.length → badX l j = false) : validV l = .tuple #[.int .i64 (-1), .int .i64 0] := by
  unfold validV
  rw [if_neg (by omega), firstBad_none h]
theorem valid_some {l : List Bx} {k : Nat} (hl : l.length ≤ 2000) (hk : k < l.length) (h : ∀ j, j < k → badX l j = false) (hb : badX l k = true) : validV l = .tuple #[.int .i64 ((k : Nat) : Int), .int .i64 60] := by
  unfold validV
  rw [if_neg (by omega), firstBad_some hk h hb]
theorem first_none {l : List Bx} (h : firstBad l = none) : ∀ j, j < l.length → badX l j = false := fun j hj => by
  unfold firstBad at h
  rw [List.find?_eq_none] at h
  simpa using h j (List.mem_range.2 hj)
theorem first_some {l : List Bx} {k : Nat} (h : firstBad l = some k) : k < l.length ∧ badX l k = true ∧ ∀ j, j < k → badX l j = false := by
  unfold firstBad at h
  have hm := List.mem_of_find?_eq_some h
  have hk := List.mem_range.1 hm
  refine ⟨hk, List.find?_some h, fun j hj => ?_⟩
  obtain ⟨_, us, vs, he, ha⟩ := List.find?_eq_some_iff_append.1 h
  have hlen : us.length = k := by
    have h1 : (List.range l.length)[us.length]? = some k := by rw [he]; simp
    obtain ⟨h2, h3⟩ := List.getElem?_eq_some_iff.1 h1
    rwa [List.getElem_range] at h3
  have hjm : j ∈ us := by
    have h1 : (List.range l.length)[j]? = some j := by rw [List.getElem?_range (by omega)]
    rw [he, List.getElem?_append_left (by omega)] at h1
    exact List.mem_of_getElem? h1
  simpa using ha j hjm
theorem valid_take {l : List Bx} {n e : Nat} (hl : l.length ≤ 2000) (hn : n ≤ e) (he : e ≤ l.length) (h : ∀ j, j < e → badX l j = false) : validV (l.take n) = .tuple #[.int .i64 (-1), .int .i64 0] :=
  valid_none (by rw [List.length_take]; omega) fun j hj => by
    rw [List.length_take] at hj
    rw [bad_take (by omega)]
    exact h j (by omega)
theorem valid_upto {l : List Bx} {k : Nat} (hl : l.length ≤ 2000) (hk : k < l.length) (hb : badX l k = true) (h : ∀ j, j < k → badX l j = false) : validV (l.take (k + 1)) = .tuple #[.int .i64 ((k : Nat) : Int), .int .i64 60] :=
  valid_some (by rw [List.length_take]; omega) (by rw [List.length_take]; omega) (fun j hj => by rw [bad_take (by omega)]; exact h j hj) (by rw [bad_take (by omega)]; exact hb)
theorem good_step {l : List Bx} {j : Nat} {a b : Bx} (h : badX l (j + 1) = false) (ha : l[j]? = some a) (hb : l[j + 1]? = some b) : a.id < b.id := by
  unfold badX prevX at h
  rw [hb] at h
  simp only [Nat.add_sub_cancel, ha, Bool.or_eq_false_iff, Bool.and_eq_false_iff, decide_eq_false_iff_not] at h
  omega
theorem good_lt {l : List Bx} {e : Nat} (h : ∀ j, j < e → badX l j = false) : ∀ (d k : Nat) {a b : Bx}, k + d + 1 < e → l[k]? = some a → l[k + d + 1]? = some b → a.id < b.id
  | 0, k, a, b, hk, ha, hb => good_step (h (k + 1) (by omega)) ha hb
  | d + 1, k, a, b, hk, ha, hb => by
    have hlt := (List.getElem?_eq_some_iff.1 hb).1
    have hc : l[k + d + 1]? = some (l[k + d + 1]'(by omega)) := List.getElem?_eq_getElem _
    have h1 := good_lt h d k (by omega) ha hc
    have h2 := good_step (h (k + d + 1 + 1) (by omega)) hc hb
    omega
theorem find_good {l : List Bx} {e k : Nat} {b : Bx} (h : ∀ j, j < e → badX l j = false) (hb : (l.take e)[k]? = some b) : findX (l.take e) b.id = some b := by
  have hlt := (List.getElem?_eq_some_iff.1 hb).1
  rw [List.length_take] at hlt
  rw [List.getElem?_take_of_lt (by omega)] at hb
  unfold findX
  refine find_at (k := k) ?_ (by rw [List.getElem?_take_of_lt (by omega)]; exact hb) (decide_eq_true rfl)
  rw [List.find?_eq_none]
  intro c hc
  rw [List.take_take, Nat.min_eq_left (by omega)] at hc
  obtain ⟨j, hj, hcj⟩ := List.mem_iff_getElem.1 hc
  rw [List.length_take] at hj
  rw [List.getElem_take] at hcj
  have hc2 : l[j]? = some c := by rw [← hcj]; exact List.getElem?_eq_getElem _
  have := good_lt h (k - j - 1) j (by omega) hc2 (by rw [show j + (k - j - 1) + 1 = k from by omega]; exact hb)
  unfold idIs
  simp only [decide_eq_true_eq]
  omega
theorem num_good {l : List Bx} {e k : Nat} {b : Bx} (h : ∀ j, j < e → badX l j = false) (hb : (l.take e)[k]? = some b) (hn : ¬ (b.num = [])) : numberedX (l.take e) b.num = some b := by
  have hlt := (List.getElem?_eq_some_iff.1 hb).1
  rw [List.length_take] at hlt
  rw [List.getElem?_take_of_lt (by omega)] at hb
  unfold numberedX
  rw [if_neg hn]
  refine find_at (k := k) ?_ (by rw [List.getElem?_take_of_lt (by omega)]; exact hb) (decide_eq_true rfl)
  rw [List.find?_eq_none]
  intro c hc
  rw [List.take_take, Nat.min_eq_left (by omega)] at hc
  have hg := h k (by omega)
  unfold badX seenX at hg
  rw [hb] at hg
  simp only [Bool.or_eq_false_iff, Bool.and_eq_false_iff, decide_eq_false_iff_not, List.any_eq_false] at hg
  have h2 := hg.1.2
  unfold numIs
  rcases h2 with h2 | h2
  · exact absurd hn h2
  · simpa using h2 c hc
theorem num_no {l : List Bx} {n : List UInt8} (h : n = []) : numberedX l n = none := by unfold numberedX; rw [if_pos h]
theorem find_is {l : List Bx} {p : Option Addr} {c : Nat} {n : Int} {b : Bx} (h : findX l n = some b) (hl : l.length ≤ 4000000000) (W : World) (hp : SLV W p (bcs l)) : Calls Tryd.prog 30 #[.slice p l.length c, .int .i64 n] W fun e w' => e = .returned (.tuple #[bxV b, .bool true]) ∧ Below W.heap.size W w' := by
  have h1 := Find_any l p c n hl W hp
  rw [h] at h1
  exact h1
theorem num_is {l : List Bx} {p : Option Addr} {c : Nat} {n : List UInt8} {b : Bx} (h : numberedX l n = some b) (hl : l.length ≤ 4000000000) (W : World) (hp : SLV W p (bcs l)) : Calls Tryd.prog 31 #[.slice p l.length c, strV n] W fun e w' => e = .returned (.tuple #[.int .i64 b.id, .bool true]) ∧ Below W.heap.size W w' := by
  have h1 := Numbered_any l p c n hl W hp
  rw [h] at h1
  exact h1
theorem num_isn {l : List Bx} {p : Option Addr} {c : Nat} {n : List UInt8} (h : numberedX l n = none) (hl : l.length ≤ 4000000000) (W : World) (hp : SLV W p (bcs l)) : Calls Tryd.prog 31 #[.slice p l.length c, strV n] W fun e w' => e = .returned (.tuple #[.int .i64 0, .bool false]) ∧ Below W.heap.size W w' := by
  have h1 := Numbered_any l p c n hl W hp
  rw [h] at h1
  exact h1
theorem bs_row {W0 : Base} {g : Nat} {cur : Array Value} {l : List Bx} {t : TypeId} {fr : Nat × Nat} (h : RowX cur l) : BS W0 (some ⟨g, 0, none⟩) l [(g, .cells cur t fr)] := fun W hW => rowx_slv (hW.2 _ (.head _)) h
set_option maxRecDepth 100000 in
set_option maxHeartbeats 40000000 in
theorem BoxFirst_law (w : World) (hE : Env w) (l0 : List Sk) (p0 : Option Addr) (c0 : Nat) (hb0 : SLV w p0 (l0.flatMap skC)) (hok0 : ∀ x ∈ l0, skOk x) (hl0 : l0.length ≤ maxLen) (hc0 : l0.length ≤ c0) (a1 : Int) (rr1 : 0 ≤ a1 ∧ a1 ≤ 255) (a2 : Int) (rr2 : 0 ≤ a2 ∧ a2 ≤ 255) : Calls Tryd.prog 9 #[.slice p0 l0.length c0, .int .u8 a1, .int .u8 a2] w fun e w' => e = .returned (.bool true) ∧ Below w.heap.size w w' := by
  have HE := Lib.hid hE
  clear hE
  obtain ⟨at_, rfl⟩ : ∃ n : Nat, a1 = (n : Int) := ⟨a1.toNat, by omega⟩
  obtain ⟨how, rfl⟩ : ∃ n : Nat, a2 = (n : Int) := ⟨a2.toNat, by omega⟩
  have HB0 := Lib.hid hb0
  clear hb0
  have hll0 : l0.length ≤ 9223372036854775807 := by unfold maxLen at hl0; omega
  have hla0 := loaded_len l0
  have hra0 := loaded_right hok0
  go_enter Tryd.func9, Tryd.ntmps9
  refine wp_seq ?_
  refine wp_region_L (W0 := w) [] (KS.start w) ?_
  refine lm (v := .bool false) rfl rfl ?_
  refine wpL_done (fun W1 hW1 => ?_)
  refine (show Code.wp _ _ _ _ _ from ?_)
  refine wp_seq ?_
  refine wp_region_L (W0 := w) [] (hW1) ?_
  refine lm (v := .slice p0 l0.length c0) rfl rfl ?_
  refine wpL_c (f := 24) (args := #[.slice p0 l0.length c0]) (fun v K9 => ∃ Kl, OwnL w 26 9 v (loadedX l0).length (bcs (loadedX l0)) Kl ∧ (∀ p ∈ ([] : List (Nat × Obj)), ∀ q ∈ Kl, q.1 ≠ p.1) ∧ K9 = [] ++ Kl) rfl (by kernel_rfl) (fun _ => (by kernel_rfl)) (fun W hW => calls_out hW (Loaded_any l0 p0 c0 hok0 hll0 hc0 W (HB0.out.keep hW.1))) (fun _ => by simp only [List.setIfInBounds_toArray, List.set_cons_succ, List.set_cons_zero] <;> rfl) ?_
  rintro v1 Kl1 ⟨_, O1, N1, rfl⟩
  refine lm (v := v1) rfl rfl ?_
  refine wpL_done (fun W2 hW2 => ?_)
  refine (show Code.wp _ _ _ _ _ from ?_)
  obtain ⟨p2, c2, rfl, hc2, HB2⟩ := own_bs O1
  refine wp_joins (fun az wz => ∃ (pn : Option Addr) (cn : Nat) (nl : List Bx) (Tn : List (Nat × Obj)) (nn : Nat), (BS w pn nl Tn) ∧ (nl.length ≤ 60) ∧ (nl.length ≤ cn) ∧ (nl.length = nn) ∧ JoinR (fun zq => List.toArray ((.slice p0 l0.length c0) :: (.int .u8 ((at_ : Nat) : Int)) :: (.int .u8 ((how : Nat) : Int)) :: undef :: undef :: undef :: (.bool false) :: (.slice pn nn cn) :: zq 8 :: undef :: undef :: undef :: undef :: undef :: undef :: undef :: undef :: undef :: undef :: undef :: undef :: undef :: undef :: (.slice p0 l0.length c0) :: (.slice p2 ((loadedX l0).length) c2) :: zq 25 :: zq 26 :: zq 27 :: zq 28 :: zq 29 :: zq 30 :: zq 31 :: zq 32 :: zq 33 :: zq 34 :: zq 35 :: zq 36 :: zq 37 :: zq 38 :: zq 39 :: zq 40 :: zq 41 :: zq 42 :: zq 43 :: zq 44 :: zq 45 :: zq 46 :: zq 47 :: zq 48 :: zq 49 :: zq 50 :: zq 51 :: zq 52 :: zq 53 :: zq 54 :: zq 55 :: zq 56 :: zq 57 :: zq 58 :: zq 59 :: zq 60 :: zq 61 :: zq 62 :: zq 63 :: zq 64 :: undef :: undef :: undef :: undef :: undef :: undef :: undef :: undef :: undef :: undef :: undef :: undef :: undef :: undef :: undef :: undef :: undef :: undef :: undef :: undef :: undef :: undef :: undef :: undef :: undef :: undef :: undef :: undef :: undef :: undef :: undef :: undef :: undef :: undef :: undef :: undef :: undef :: undef :: undef :: undef :: undef :: undef :: undef :: undef :: undef :: undef :: undef :: undef :: undef :: undef :: undef :: undef :: undef :: undef :: undef :: undef :: undef :: undef :: undef :: undef :: undef :: undef :: undef :: undef :: undef :: undef :: undef :: undef :: undef :: undef :: undef :: undef :: undef :: undef :: undef :: undef :: undef :: undef :: undef :: undef :: undef :: undef :: undef :: undef :: undef :: undef :: undef :: undef :: undef :: undef :: undef :: undef :: undef :: undef :: undef :: undef :: undef :: undef :: undef :: undef :: undef :: undef :: undef :: undef :: undef :: undef :: undef :: undef :: undef :: [])) w Tn az wz) 1 ?_ ?_
  · refine (show Code.wp _ _ _ _ _ from ?_)
    refine wp_seq ?_
    refine wp_region_L (W0 := w) Kl1 (hW2) ?_
    refine lm (v := .slice p2 ((loadedX l0).length) c2) rfl rfl ?_
    refine lp (v := .int .i64 ((((loadedX l0).length) : Nat) : Int)) rfl rfl (run_lenL (p := p2) (cap := c2) (n := ((loadedX l0).length)) rfl Tryd.underlying22 (by kernel_rfl)) ?_
    refine lp (v := .bool (decide (0 < ((loadedX l0).length)))) rfl rfl (run_bin rfl (vx := (.int .i64 ((((loadedX l0).length) : Nat) : Int))) (vy := (.int .i64 ((0 : Nat) : Int))) (by kernel_rfl) (by kernel_rfl) fun w => bn_gtr rfl w) ?_
    refine wpL_done (fun W3 hW3 => ?_)
    refine (show Code.wp _ _ _ _ _ from ?_)
    cases hd1 : (decide (0 < ((loadedX l0).length))) with
    | false =>
      have h1 : ¬ (0 < ((loadedX l0).length)) := of_decide_eq_false hd1
      clear hd1
      refine wp_cond_false rfl ?_
      refine wp_skip ?_
      exact ⟨p2, c2, (loadedX l0), Kl1, (loadedX l0).length, HB2, (by omega), (by omega), rfl, join_mk (by kernel_rfl) (hW3.sub (fun p hp => by first | exact hp | (simp only [List.mem_cons, List.mem_append, List.nil_append, List.not_mem_nil, or_assoc, or_false, false_or] at hp ⊢ <;> grind)))⟩
    | true =>
      have h1 : 0 < ((loadedX l0).length) := of_decide_eq_true hd1
      clear hd1
      have hmod := Nat.mod_lt at_ h1
      refine wp_cond_true rfl ?_
      refine wp_seq ?_
      obtain ⟨go3, co3, cu3, rq3, Bo3, Ro3, rk3⟩ := own_some O1 h1
      cases rq3
      subst rk3
      refine wp_region_L (W0 := w) [(go3, .cells cu3 26 (0, 0))] ((hW3.sub (fun p hp => by simp only [List.mem_cons, List.mem_append, List.nil_append, List.not_mem_nil, or_assoc, or_false, false_or, List.cons_append, List.append_assoc] at hp ⊢ <;> grind))) ?_
      refine lm (v := .slice (some ⟨go3, 0, none⟩) ((loadedX l0).length) c2) rfl rfl ?_
      refine lm (v := .int .u8 ((at_ : Nat) : Int)) rfl rfl ?_
      refine lp (v := .int .i64 ((at_ : Nat) : Int)) rfl rfl (run_conv rfl (vx := (.int .u8 ((at_ : Nat) : Int))) (by kernel_rfl) fun w => cv_int Tryd.underlying5 Tryd.underlying3 (wr_i64 (by omega)) w) ?_
      refine lm (v := .slice (some ⟨go3, 0, none⟩) ((loadedX l0).length) c2) rfl rfl ?_
      refine lp (v := .int .i64 ((((loadedX l0).length) : Nat) : Int)) rfl rfl (run_lenL (p := (some ⟨go3, 0, none⟩)) (cap := c2) (n := ((loadedX l0).length)) rfl Tryd.underlying22 (by kernel_rfl)) ?_
      refine lp (v := .int .i64 (((at_ % ((loadedX l0).length)) : Nat) : Int)) rfl rfl (run_bin rfl (vx := (.int .i64 ((at_ : Nat) : Int))) (vy := (.int .i64 ((((loadedX l0).length) : Nat) : Int))) (by kernel_rfl) (by kernel_rfl) fun w => bn_rem (z := (at_ % ((loadedX l0).length))) rfl (by omega) w) ?_
      refine lp (v := .pointer (some ⟨go3, 0 + (at_ % ((loadedX l0).length)) * 9, none⟩)) rfl rfl (run_idxL (j := .i64) (n := ((loadedX l0).length)) (cap := c2) (b := go3) (off := 0) (k := (at_ % ((loadedX l0).length))) (sz := 9) rfl Tryd.underlying22 (by kernel_rfl) (by kernel_rfl) (by kernel_rfl) (by omega)) ?_
      refine lm (v := .pointer (some ⟨go3, 0 + (at_ % ((loadedX l0).length)) * 9, none⟩)) rfl rfl ?_
      refine wpL_done (fun W4 hW4 => ?_)
      refine (show Code.wp _ _ _ _ _ from ?_)
      refine wp_seq ?_
      refine wp_region_L (W0 := w) [(go3, .cells cu3 26 (0, 0))] (hW4) ?_
      refine lm (v := .int .u8 ((how : Nat) : Int)) rfl rfl ?_
      refine lp (v := .int .u8 (((how % 6) : Nat) : Int)) rfl rfl (run_bin rfl (vx := (.int .u8 ((how : Nat) : Int))) (vy := (.int .u8 ((6 : Nat) : Int))) (by kernel_rfl) (by kernel_rfl) fun w => bn_rem (z := (how % 6)) rfl (by omega) w) ?_
      refine wpL_done (fun W5 hW5 => ?_)
      refine (show Code.wp _ _ _ _ _ from ?_)
      refine wp_block ?_
      refine wp_seq ?_
      refine wp_region_L (W0 := w) [(go3, .cells cu3 26 (0, 0))] (hW5) ?_
      refine lp (v := .bool (decide ((how % 6) = 0))) rfl rfl (run_bin rfl (vx := (.int .u8 (((how % 6) : Nat) : Int))) (vy := (.int .u8 ((0 : Nat) : Int))) (by kernel_rfl) (by kernel_rfl) fun w => bn_eql rfl w) ?_
      refine lm (v := .bool (decide ((how % 6) = 0))) rfl rfl ?_
      refine wpL_done (fun W6 hW6 => ?_)
      refine (show Code.wp _ _ _ _ _ from ?_)
      cases hd2 : (decide ((how % 6) = 0)) with
      | false =>
        have h2 : ¬ ((how % 6) = 0) := of_decide_eq_false hd2
        clear hd2
        refine wp_cond_false rfl ?_
        refine wp_seq ?_
        refine wp_region_L (W0 := w) [(go3, .cells cu3 26 (0, 0))] (hW6) ?_
        refine lp (v := .bool (decide ((how % 6) = 1))) rfl rfl (run_bin rfl (vx := (.int .u8 (((how % 6) : Nat) : Int))) (vy := (.int .u8 ((1 : Nat) : Int))) (by kernel_rfl) (by kernel_rfl) fun w => bn_eql rfl w) ?_
        refine lm (v := .bool (decide ((how % 6) = 1))) rfl rfl ?_
        refine wpL_done (fun W7 hW7 => ?_)
        refine (show Code.wp _ _ _ _ _ from ?_)
        cases hd3 : (decide ((how % 6) = 1)) with
        | false =>
          have h3 : ¬ ((how % 6) = 1) := of_decide_eq_false hd3
          clear hd3
          refine wp_cond_false rfl ?_
          refine wp_seq ?_
          refine wp_region_L (W0 := w) [(go3, .cells cu3 26 (0, 0))] (hW7) ?_
          refine lp (v := .bool (decide ((how % 6) = 2))) rfl rfl (run_bin rfl (vx := (.int .u8 (((how % 6) : Nat) : Int))) (vy := (.int .u8 ((2 : Nat) : Int))) (by kernel_rfl) (by kernel_rfl) fun w => bn_eql rfl w) ?_
          refine lm (v := .bool (decide ((how % 6) = 2))) rfl rfl ?_
          refine wpL_done (fun W8 hW8 => ?_)
          refine (show Code.wp _ _ _ _ _ from ?_)
          cases hd4 : (decide ((how % 6) = 2)) with
          | false =>
            have h4 : ¬ ((how % 6) = 2) := of_decide_eq_false hd4
            clear hd4
            refine wp_cond_false rfl ?_
            refine wp_seq ?_
            refine wp_region_L (W0 := w) [(go3, .cells cu3 26 (0, 0))] (hW8) ?_
            refine lp (v := .bool (decide ((how % 6) = 3))) rfl rfl (run_bin rfl (vx := (.int .u8 (((how % 6) : Nat) : Int))) (vy := (.int .u8 ((3 : Nat) : Int))) (by kernel_rfl) (by kernel_rfl) fun w => bn_eql rfl w) ?_
            refine lm (v := .bool (decide ((how % 6) = 3))) rfl rfl ?_
            refine wpL_done (fun W9 hW9 => ?_)
            refine (show Code.wp _ _ _ _ _ from ?_)
            cases hd5 : (decide ((how % 6) = 3)) with
            | false =>
              have h5 : ¬ ((how % 6) = 3) := of_decide_eq_false hd5
              clear hd5
              refine wp_cond_false rfl ?_
              refine wp_skip ?_
              have hll : (loadedX l0).length = (loadedX l0).length := by simp only [List.length_set]
              exact ⟨(some ⟨go3, 0, none⟩), c2, (loadedX l0), [(go3, .cells cu3 26 (0, 0))], (loadedX l0).length, (bs_row (rowx_own Ro3)), (by rw [hll]; omega), (by rw [hll]; exact Ro3.2.2.1), hll, join_mk (by kernel_rfl) (hW9.sub (fun p hp => by first | exact hp | (simp only [List.mem_cons, List.mem_append, List.nil_append, List.not_mem_nil, or_assoc, or_false, false_or] at hp ⊢ <;> grind)))⟩
            | true =>
              have h5 : (how % 6) = 3 := of_decide_eq_true hd5
              clear hd5
              refine wp_cond_true rfl ?_
              refine wp_region_L (W0 := w) [(go3, .cells cu3 26 (0, 0))] (hW9) ?_
              refine lm (v := .pointer (some ⟨go3, 0 + (at_ % ((loadedX l0).length)) * 9, none⟩)) rfl rfl ?_
              refine lm (v := .pointer (some ⟨go3, 0 + (at_ % ((loadedX l0).length)) * 9, none⟩)) rfl rfl ?_
              refine lm (v := .pointer (some ⟨go3, 0 + (at_ % ((loadedX l0).length)) * 9, none⟩)) rfl rfl ?_
              refine lm (v := .pointer (some ⟨go3, 0 + (at_ % ((loadedX l0).length)) * 9 + 5, none⟩)) rfl rfl ?_
              obtain ⟨b4, hy4⟩ : ∃ bz, ((loadedX l0) : List Bx)[(at_ % ((loadedX l0).length))]? = some bz := ⟨_, List.getElem?_eq_getElem (by first | omega | (simp only [List.length_set]; omega))⟩
              refine lv (v := .int .i64 b4.load) rfl rfl (yb_cell (off := 0 + (at_ % ((loadedX l0).length)) * 9 + 5) rfl (by kernel_rfl) (.head _) Tryd.underlying3 rfl (RowX.get (rowx_own Ro3) hy4 5 _ rfl)) ?_
              refine lm (v := .pointer (some ⟨go3, 0 + (at_ % ((loadedX l0).length)) * 9, none⟩)) rfl rfl ?_
              refine lm (v := .pointer (some ⟨go3, 0 + (at_ % ((loadedX l0).length)) * 9 + 6, none⟩)) rfl rfl ?_
              obtain ⟨R5, Q5⟩ := RowX.putf (fo := 6) (b' := (Bx.mk b4.id b4.num b4.size b4.high b4.kilos b4.load b4.load b4.cls b4.rf)) (v := .int .i64 b4.load) (rowx_own Ro3) hy4 (by omega) rfl
              refine wpL_s [(go3, .cells (putF cu3 (0 + (at_ % ((loadedX l0).length)) * 9 + 6) (.int .i64 b4.load)) 26 (0, 0))] rfl rfl (st_fld (k := (at_ % ((loadedX l0).length))) (fo := 6) (v := .int .i64 b4.load) rfl (by kernel_rfl) (by kernel_rfl) (.head _) Bo3 (by kernel_rfl) rfl rfl (rowx_own Ro3) (List.getElem?_eq_some_iff.1 hy4).1 (by omega) (List.forall_mem_cons.2 ⟨.inl rfl, (List.forall_mem_nil _)⟩)) ?_
              refine wpL_done (fun W10 hW10 => ?_)
              have hll : ((loadedX l0).set (at_ % ((loadedX l0).length)) (Bx.mk b4.id b4.num b4.size b4.high b4.kilos b4.load b4.load b4.cls b4.rf)).length = (loadedX l0).length := by simp only [List.length_set]
              exact ⟨(some ⟨go3, 0, none⟩), c2, ((loadedX l0).set (at_ % ((loadedX l0).length)) (Bx.mk b4.id b4.num b4.size b4.high b4.kilos b4.load b4.load b4.cls b4.rf)), [(go3, .cells (putF cu3 (0 + (at_ % ((loadedX l0).length)) * 9 + 6) (.int .i64 b4.load)) 26 (0, 0))], (loadedX l0).length, (bs_row R5), (by rw [hll]; omega), (by rw [hll]; exact Ro3.2.2.1), hll, join_mk (by kernel_rfl) (hW10.sub (fun p hp => by first | exact hp | (simp only [List.mem_cons, List.mem_append, List.nil_append, List.not_mem_nil, or_assoc, or_false, false_or] at hp ⊢ <;> grind)))⟩
          | true =>
            have h4 : (how % 6) = 2 := of_decide_eq_true hd4
            clear hd4
            refine wp_cond_true rfl ?_
            refine wp_region_L (W0 := w) [(go3, .cells cu3 26 (0, 0))] (hW8) ?_
            refine lm (v := .pointer (some ⟨go3, 0 + (at_ % ((loadedX l0).length)) * 9, none⟩)) rfl rfl ?_
            refine lm (v := .pointer (some ⟨go3, 0 + (at_ % ((loadedX l0).length)) * 9, none⟩)) rfl rfl ?_
            refine lm (v := .pointer (some ⟨go3, 0 + (at_ % ((loadedX l0).length)) * 9 + 4, none⟩)) rfl rfl ?_
            obtain ⟨b6, hy6⟩ : ∃ bz, ((loadedX l0) : List Bx)[(at_ % ((loadedX l0).length))]? = some bz := ⟨_, List.getElem?_eq_getElem (by first | omega | (simp only [List.length_set]; omega))⟩
            obtain ⟨R7, Q7⟩ := RowX.putf (fo := 4) (b' := (Bx.mk b6.id b6.num b6.size b6.high 0 b6.load b6.dis b6.cls b6.rf)) (v := .int .i64 0) (rowx_own Ro3) hy6 (by omega) rfl
            refine wpL_s [(go3, .cells (putF cu3 (0 + (at_ % ((loadedX l0).length)) * 9 + 4) (.int .i64 0)) 26 (0, 0))] rfl rfl (st_fld (k := (at_ % ((loadedX l0).length))) (fo := 4) (v := .int .i64 0) rfl (by kernel_rfl) (by kernel_rfl) (.head _) Bo3 (by kernel_rfl) rfl rfl (rowx_own Ro3) (List.getElem?_eq_some_iff.1 hy6).1 (by omega) (List.forall_mem_cons.2 ⟨.inl rfl, (List.forall_mem_nil _)⟩)) ?_
            refine wpL_done (fun W11 hW11 => ?_)
            have hll : ((loadedX l0).set (at_ % ((loadedX l0).length)) (Bx.mk b6.id b6.num b6.size b6.high 0 b6.load b6.dis b6.cls b6.rf)).length = (loadedX l0).length := by simp only [List.length_set]
            exact ⟨(some ⟨go3, 0, none⟩), c2, ((loadedX l0).set (at_ % ((loadedX l0).length)) (Bx.mk b6.id b6.num b6.size b6.high 0 b6.load b6.dis b6.cls b6.rf)), [(go3, .cells (putF cu3 (0 + (at_ % ((loadedX l0).length)) * 9 + 4) (.int .i64 0)) 26 (0, 0))], (loadedX l0).length, (bs_row R7), (by rw [hll]; omega), (by rw [hll]; exact Ro3.2.2.1), hll, join_mk (by kernel_rfl) (hW11.sub (fun p hp => by first | exact hp | (simp only [List.mem_cons, List.mem_append, List.nil_append, List.not_mem_nil, or_assoc, or_false, false_or] at hp ⊢ <;> grind)))⟩
        | true =>
          have h3 : (how % 6) = 1 := of_decide_eq_true hd3
          clear hd3
          refine wp_cond_true rfl ?_
          refine wp_region_L (W0 := w) [(go3, .cells cu3 26 (0, 0))] (hW7) ?_
          refine lm (v := .pointer (some ⟨go3, 0 + (at_ % ((loadedX l0).length)) * 9, none⟩)) rfl rfl ?_
          refine lm (v := .slice (some ⟨go3, 0, none⟩) ((loadedX l0).length) c2) rfl rfl ?_
          refine lp (v := .pointer (some ⟨go3, 0 + 0 * 9, none⟩)) rfl rfl (run_idxL (j := .i64) (n := ((loadedX l0).length)) (cap := c2) (b := go3) (off := 0) (k := 0) (sz := 9) rfl Tryd.underlying22 (by kernel_rfl) (by kernel_rfl) (by kernel_rfl) (by omega)) ?_
          refine lm (v := .pointer (some ⟨go3, 0 + 0 * 9 + 1, none⟩)) rfl rfl ?_
          obtain ⟨b8, hy8⟩ : ∃ bz, ((loadedX l0) : List Bx)[0]? = some bz := ⟨_, List.getElem?_eq_getElem (by first | omega | (simp only [List.length_set]; omega))⟩
          refine lv (v := strV b8.num) rfl rfl (yb_cell (off := 0 + 0 * 9 + 1) rfl (by kernel_rfl) (.head _) Tryd.underlying9 rfl (RowX.get (rowx_own Ro3) hy8 1 _ rfl)) ?_
          refine lm (v := .pointer (some ⟨go3, 0 + (at_ % ((loadedX l0).length)) * 9, none⟩)) rfl rfl ?_
          refine lm (v := .pointer (some ⟨go3, 0 + (at_ % ((loadedX l0).length)) * 9 + 1, none⟩)) rfl rfl ?_
          obtain ⟨b9, hy9⟩ : ∃ bz, ((loadedX l0) : List Bx)[(at_ % ((loadedX l0).length))]? = some bz := ⟨_, List.getElem?_eq_getElem (by first | omega | (simp only [List.length_set]; omega))⟩
          obtain ⟨R10, Q10⟩ := RowX.putf (fo := 1) (b' := (Bx.mk b9.id b8.num b9.size b9.high b9.kilos b9.load b9.dis b9.cls b9.rf)) (v := strV b8.num) (rowx_own Ro3) hy9 (by omega) rfl
          refine wpL_s [(go3, .cells (putF cu3 (0 + (at_ % ((loadedX l0).length)) * 9 + 1) (strV b8.num)) 26 (0, 0))] rfl rfl (st_fld (k := (at_ % ((loadedX l0).length))) (fo := 1) (v := strV b8.num) rfl (by kernel_rfl) (by kernel_rfl) (.head _) Bo3 (by kernel_rfl) rfl rfl (rowx_own Ro3) (List.getElem?_eq_some_iff.1 hy9).1 (by omega) (List.forall_mem_cons.2 ⟨.inl rfl, (List.forall_mem_nil _)⟩)) ?_
          refine wpL_done (fun W12 hW12 => ?_)
          have hll : ((loadedX l0).set (at_ % ((loadedX l0).length)) (Bx.mk b9.id b8.num b9.size b9.high b9.kilos b9.load b9.dis b9.cls b9.rf)).length = (loadedX l0).length := by simp only [List.length_set]
          exact ⟨(some ⟨go3, 0, none⟩), c2, ((loadedX l0).set (at_ % ((loadedX l0).length)) (Bx.mk b9.id b8.num b9.size b9.high b9.kilos b9.load b9.dis b9.cls b9.rf)), [(go3, .cells (putF cu3 (0 + (at_ % ((loadedX l0).length)) * 9 + 1) (strV b8.num)) 26 (0, 0))], (loadedX l0).length, (bs_row R10), (by rw [hll]; omega), (by rw [hll]; exact Ro3.2.2.1), hll, join_mk (by kernel_rfl) (hW12.sub (fun p hp => by first | exact hp | (simp only [List.mem_cons, List.mem_append, List.nil_append, List.not_mem_nil, or_assoc, or_false, false_or] at hp ⊢ <;> grind)))⟩
      | true =>
        have h2 : (how % 6) = 0 := of_decide_eq_true hd2
        clear hd2
        refine wp_cond_true rfl ?_
        refine wp_region_L (W0 := w) [(go3, .cells cu3 26 (0, 0))] (hW6) ?_
        refine lm (v := .pointer (some ⟨go3, 0 + (at_ % ((loadedX l0).length)) * 9, none⟩)) rfl rfl ?_
        refine lm (v := .pointer (some ⟨go3, 0 + (at_ % ((loadedX l0).length)) * 9, none⟩)) rfl rfl ?_
        refine lm (v := .pointer (some ⟨go3, 0 + (at_ % ((loadedX l0).length)) * 9, none⟩)) rfl rfl ?_
        obtain ⟨b11, hy11⟩ : ∃ bz, ((loadedX l0) : List Bx)[(at_ % ((loadedX l0).length))]? = some bz := ⟨_, List.getElem?_eq_getElem (by first | omega | (simp only [List.length_set]; omega))⟩
        obtain ⟨R12, Q12⟩ := RowX.putf (fo := 0) (b' := (Bx.mk 1 b11.num b11.size b11.high b11.kilos b11.load b11.dis b11.cls b11.rf)) (v := .int .i64 1) (rowx_own Ro3) hy11 (by omega) rfl
        refine wpL_s [(go3, .cells (putF cu3 (0 + (at_ % ((loadedX l0).length)) * 9 + 0) (.int .i64 1)) 26 (0, 0))] rfl rfl (st_fld (k := (at_ % ((loadedX l0).length))) (fo := 0) (v := .int .i64 1) rfl (by kernel_rfl) (by kernel_rfl) (.head _) Bo3 (by kernel_rfl) rfl rfl (rowx_own Ro3) (List.getElem?_eq_some_iff.1 hy11).1 (by omega) (List.forall_mem_cons.2 ⟨.inl rfl, (List.forall_mem_nil _)⟩)) ?_
        refine wpL_done (fun W13 hW13 => ?_)
        have hll : ((loadedX l0).set (at_ % ((loadedX l0).length)) (Bx.mk 1 b11.num b11.size b11.high b11.kilos b11.load b11.dis b11.cls b11.rf)).length = (loadedX l0).length := by simp only [List.length_set]
        exact ⟨(some ⟨go3, 0, none⟩), c2, ((loadedX l0).set (at_ % ((loadedX l0).length)) (Bx.mk 1 b11.num b11.size b11.high b11.kilos b11.load b11.dis b11.cls b11.rf)), [(go3, .cells (putF cu3 (0 + (at_ % ((loadedX l0).length)) * 9 + 0) (.int .i64 1)) 26 (0, 0))], (loadedX l0).length, (bs_row R12), (by rw [hll]; omega), (by rw [hll]; exact Ro3.2.2.1), hll, join_mk (by kernel_rfl) (hW13.sub (fun p hp => by first | exact hp | (simp only [List.mem_cons, List.mem_append, List.nil_append, List.not_mem_nil, or_assoc, or_false, false_or] at hp ⊢ <;> grind)))⟩
  · rintro a1 W1j ⟨pn, cn, nl, Tn, nn, hbs, hnl, hcn, hnn, ⟨zx1, rfl⟩, hW1j⟩
    dsimp only [cutT]
    rcases hfb : firstBad nl with _ | kb
    · have hgood0 := first_none hfb
      have hgood : ∀ j, j < nn → badX nl j = false := fun j hj => hgood0 j (by omega)
      refine wp_seq ?_
      refine wp_region_L (W0 := w) Tn (hW1j) ?_
      refine lm (v := .slice pn nn cn) rfl rfl ?_
      have hfl13 : (nl : List Bx).length = nn := by first | (simp only [List.length_set]; done) | (simp only [List.length_set, List.length_take]; omega) | omega
      refine lv (v := .tuple #[.int .i64 (-1), .int .i64 0]) rfl rfl (yb_call (f := 29) (args := #[.slice pn nn cn]) (fun _ => by kernel_rfl) fun W hW => (by have h := valid_is (l := nl) (p := pn) (c := cn) (valid_none (by omega) hgood0) (by first | omega | (rw [List.length_take]; omega)) W (hbs W (hW.sub (fun p hp => by simp only [List.mem_cons, List.mem_append, List.nil_append, List.not_mem_nil, or_assoc, or_false, false_or, hp, true_or, or_true]))); rw [hfl13] at h; exact h)) ?_
      refine lm (v := .tuple #[.int .i64 (-1), .int .i64 0]) rfl rfl ?_
      refine lm (v := .int .i64 (-1)) rfl rfl ?_
      refine lm (v := .int .i64 0) rfl rfl ?_
      refine lm (v := .int .i64 (-1)) rfl rfl ?_
      refine lm (v := .int .i64 0) rfl rfl ?_
      refine wpL_done (fun W14 hW14 => ?_)
      refine (show Code.wp _ _ _ _ _ from ?_)
      refine wp_seq ?_
      refine wp_region_L (W0 := w) Tn (hW14) ?_
      refine lm (v := .slice pn nn cn) rfl rfl ?_
      refine lp (v := .int .i64 ((nn : Nat) : Int)) rfl rfl (run_lenL (p := pn) (cap := cn) (n := nn) rfl Tryd.underlying22 (by kernel_rfl)) ?_
      refine lm (v := .int .i64 ((nn : Nat) : Int)) rfl rfl ?_
      refine wpL_done (fun W15 hW15 => ?_)
      refine (show Code.wp _ _ _ _ _ from ?_)
      refine wp_seq ?_
      refine wp_seq ?_
      refine wp_region_L (W0 := w) Tn (hW15) ?_
      refine lm (v := .int .i64 0) rfl rfl ?_
      refine lm (v := .bool false) rfl rfl ?_
      refine wpL_done (fun W16 hW16 => ?_)
      refine (show Code.wp _ _ _ _ _ from ?_)
      refine wp_cond_false rfl ?_
      refine wp_seq ?_
      refine wp_region_L (W0 := w) Tn (hW16) ?_
      refine lm (v := .int .i64 0) rfl rfl ?_
      refine lm (v := .bool false) rfl rfl ?_
      refine lm (v := .bool false) rfl rfl ?_
      refine lm (v := .int .i64 (-1)) rfl rfl ?_
      refine lm (v := .bool false) rfl rfl ?_
      refine lm (v := .bool false) rfl rfl ?_
      refine wpL_done (fun W17 hW17 => ?_)
      refine (show Code.wp _ _ _ _ _ from ?_)
      refine wp_cond_false rfl ?_
      refine wp_skip ?_
      refine (show Code.wp _ _ _ _ _ from ?_)
      refine wp_seq ?_
      refine wp_seq ?_
      refine wp_region_L (W0 := w) Tn (hW17) ?_
      refine lm (v := .int .i64 ((nn : Nat) : Int)) rfl rfl ?_
      refine lp (v := .int .i64 (((nn + 1) : Nat) : Int)) rfl rfl (run_bin rfl (vx := (.int .i64 ((nn : Nat) : Int))) (vy := (.int .i64 ((1 : Nat) : Int))) (by kernel_rfl) (by kernel_rfl) fun w => bn_add (z := (nn + 1)) rfl (wr_i64 (by omega)) w) ?_
      refine lm (v := .int .i64 0) rfl rfl ?_
      refine wpL_done (fun W18 hW18 => ?_)
      refine (show Code.wp _ _ _ _ _ from ?_)
      refine wp_block ?_
      go_loopw [106] (fun u106 wr => ∃ (n : Nat), (n ≤ (nn + 1)) ∧ u106 = .int .i64 ((n : Nat) : Int) ∧ KS w Tn wr) (fun u106 _ => (nn + 1) - (intOf u106).toNat)
      case atStart => exact ⟨0, (Nat.zero_le _), rfl, (hW18.sub (fun p hp => by first | exact hp | (simp only [List.mem_cons, List.mem_append, List.nil_append, List.not_mem_nil, or_assoc, or_false, false_or] at hp ⊢ <;> grind)))⟩
      case round =>
        obtain ⟨n, hn, rfl, hL19⟩ := hrel
        refine wp_seq ?_
        refine wp_region_L (W0 := w) Tn (hL19) ?_
        refine lp (v := .bool (decide (n < (nn + 1)))) rfl rfl (run_bin rfl (vx := (.int .i64 ((n : Nat) : Int))) (vy := (.int .i64 (((nn + 1) : Nat) : Int))) (by kernel_rfl) (by kernel_rfl) fun w => bn_lss rfl w) ?_
        refine wpL_done (fun W20 hW20 => ?_)
        refine (show Code.wp _ _ _ _ _ from ?_)
        refine wp_seq ?_
        cases hd6 : (decide (n < (nn + 1))) with
        | false =>
          have h6 : ¬ (n < (nn + 1)) := of_decide_eq_false hd6
          clear hd6
          refine wp_cond_false rfl ?_
          refine wp_exit ?_
          refine (show Code.wp _ _ _ _ _ from ?_)
          refine wp_seq ?_
          refine wp_seq ?_
          refine wp_region_L (W0 := w) Tn (hW20) ?_
          refine lm (v := .slice pn nn cn) rfl rfl ?_
          refine lm (v := .int .i64 ((nn : Nat) : Int)) rfl rfl ?_
          refine lp (v := .slice pn nn cn) rfl rfl (run_slt (p := pn) (n := nn) (c := cn) (j := nn) (kd := .i64) (sz := 9) rfl Tryd.underlying22 (by kernel_rfl) (by kernel_rfl) (by kernel_rfl) (by first | omega | assumption)) ?_
          refine lp (v := .int .i64 ((nn : Nat) : Int)) rfl rfl (run_lenL (p := pn) (cap := cn) (n := nn) rfl Tryd.underlying22 (by kernel_rfl)) ?_
          refine lm (v := .int .i64 0) rfl rfl ?_
          refine wpL_done (fun W21 hW21 => ?_)
          refine (show Code.wp _ _ _ _ _ from ?_)
          refine wp_block ?_
          go_loopw [127] (fun u127 wr => ∃ (k : Nat), (k ≤ nn) ∧ u127 = .int .i64 ((k : Nat) : Int) ∧ KS w Tn wr) (fun u127 _ => nn - (intOf u127).toNat)
          case atStart => exact ⟨0, (Nat.zero_le _), rfl, (hW21.sub (fun p hp => by first | exact hp | (simp only [List.mem_cons, List.mem_append, List.nil_append, List.not_mem_nil, or_assoc, or_false, false_or] at hp ⊢ <;> grind)))⟩
          case round =>
            obtain ⟨k, hk, rfl, hL22⟩ := hrel
            refine wp_seq ?_
            refine wp_region_L (W0 := w) Tn (hL22) ?_
            refine lp (v := .bool (decide (k < nn))) rfl rfl (run_bin rfl (vx := (.int .i64 ((k : Nat) : Int))) (vy := (.int .i64 ((nn : Nat) : Int))) (by kernel_rfl) (by kernel_rfl) fun w => bn_lss rfl w) ?_
            refine wpL_done (fun W23 hW23 => ?_)
            refine (show Code.wp _ _ _ _ _ from ?_)
            refine wp_seq ?_
            cases hd7 : (decide (k < nn)) with
            | false =>
              have h7 : ¬ (k < nn) := of_decide_eq_false hd7
              clear hd7
              refine wp_cond_false rfl ?_
              refine wp_exit ?_
              refine (show Code.wp _ _ _ _ _ from ?_)
              refine wp_seq ?_
              refine wp_region_L (W0 := w) Tn (hW23) ?_
              refine lv (v := .bool true) rfl rfl (yb_call (f := 12) (args := #[]) (fun _ => by kernel_rfl) fun W hW => awake_any W (HE.out.keep hW.1)) ?_
              refine lm (v := .bool true) rfl rfl ?_
              refine wpL_done (fun W24 hW24 => ?_)
              refine (show Code.wp _ _ _ _ _ from ?_)
              refine wp_ret ?_
              try simp only [inBlock_ret, then_ret]
              refine bodyPost_ret (v := .bool true) ?_ rfl ?_
              · kernel_rfl
              · exact ⟨rfl, hW24.1⟩
            | true =>
              have h7 : k < nn := of_decide_eq_true hd7
              clear hd7
              refine wp_cond_true rfl ?_
              refine wp_skip ?_
              refine (show Code.wp _ _ _ _ _ from ?_)
              refine wp_seq ?_
              refine wp_block ?_
              refine wp_seq ?_
              refine wp_region_L (W0 := w) Tn (hW23) ?_
              obtain ⟨b14, g14_, f14, hy14, hp14, hc14⟩ := ((bs_take nn hbs)).at (hW23.sub (fun p hp => by simp only [List.mem_cons, List.mem_append, List.nil_append, List.not_mem_nil, or_assoc, or_false, false_or, hp, true_or, or_true])) (k := k) (by first | omega | (simp only [List.length_drop, List.length_take, List.length_append]; omega))
              refine lp (v := .pointer (some ⟨g14_, f14 + k * 9, none⟩)) rfl rfl (run_idxQ (p := pn) (cap := cn) (n := nn) (j := .i64) (k := k) (sz := 9) rfl Tryd.underlying22 (by kernel_rfl) (by kernel_rfl) hp14 (by kernel_rfl) (by omega)) ?_
              refine lv (v := bxV b14) rfl rfl (yb_bs (off := f14 + k * 9) (b := b14) rfl (by kernel_rfl) (fun W hW jq vq hv => hc14 W (hW.sub (fun p hp => by simp only [List.mem_cons, List.mem_append, List.nil_append, List.not_mem_nil, or_assoc, or_false, false_or, hp, true_or, or_true])) jq vq hv) Tryd.underlying26 rfl (by kernel_rfl)) ?_
              refine wpL_new (fun g => .pointer (some ⟨g, 0, none⟩)) (obi := .cells (bxC bx0) 26 (0, 0)) rfl rfl (fun _ => by kernel_rfl) (fun _ => by simp only [List.setIfInBounds_toArray, List.set_cons_succ, List.set_cons_zero] <;> rfl) fun g15 Bg15 Fg15 => ?_
              obtain dj16_0 : Dk g15 Tn := by simpa only [dj_app_l, dj_app_r, dj_cons_l, dj_cons_r, dj_nil_l, dj_nil_r, dk_app, dk_cons, dk_nil, and_true, true_and, and_assoc] using (show Dk g15 Tn from Fg15)
              refine wpL_s ((g15, .cells (bxC b14) 26 (0, 0)) :: Tn) rfl rfl (st_bx (b := b14) rfl (by kernel_rfl) (by kernel_rfl) (.head _) rfl Bg15 (by kernel_rfl) (List.forall_mem_cons.2 ⟨.inl rfl, (fun p hp => .inr ⟨(.tail _ hp), ((show Dk g15 Tn from (by (try simp only [dj_app_l, dj_app_r, dj_cons_l, dj_cons_r, dj_nil_l, dj_nil_r, dk_app, dk_cons, dk_nil, and_true, true_and, and_assoc]); repeat' (first | trivial | assumption | exact Dj.symm (by assumption) | exact Ne.symm (by assumption) | apply And.intro))) _ hp)⟩)⟩)) ?_
              refine wpL_done (fun W25 hW25 => ?_)
              refine (show Code.wp _ _ _ _ _ from ?_)
              refine wp_seq ?_
              refine wp_region_V (W0 := w) ((g15, .cells (bxC b14) 26 (0, 0)) :: Tn) (by kernel_rfl) (hW25) ?_
              refine vm (i := 0) (v := .slice pn nn cn) rfl rfl rfl ?_
              refine vm (i := 1) (v := .int .i64 ((nn : Nat) : Int)) rfl rfl rfl ?_
              refine vp (i := 2) (v := .slice pn nn cn) rfl rfl rfl (run_slt (p := pn) (n := nn) (c := cn) (j := nn) (kd := .i64) (sz := 9) rfl Tryd.underlying22 (by kernel_rfl) (by kernel_rfl) (by kernel_rfl) (by first | omega | assumption)) ?_
              refine vm (i := 3) (v := .pointer (some ⟨g15, 0, none⟩)) rfl rfl rfl ?_
              refine vv (i := 4) (v := .int .i64 b14.id) rfl rfl rfl (yb_cell (off := 0) rfl (by kernel_rfl) (.head _) Tryd.underlying3 rfl (by kernel_rfl)) ?_
              have hfl17 : ((nl.take nn) : List Bx).length = nn := by first | (simp only [List.length_set]; done) | (simp only [List.length_set, List.length_take]; omega) | omega
              refine vv (i := 5) (v := .tuple #[bxV b14, .bool true]) rfl rfl rfl (yb_call (f := 30) (args := #[.slice pn nn cn, .int .i64 b14.id]) (fun _ => by kernel_rfl) fun W hW => (by have h := find_is (l := (nl.take nn)) (p := pn) (c := cn) (find_good hgood hy14) (by rw [List.length_take]; omega) W ((bs_take nn hbs) W (hW.sub (fun p hp => by simp only [List.mem_cons, List.mem_append, List.nil_append, List.not_mem_nil, or_assoc, or_false, false_or, hp, true_or, or_true]))); rw [hfl17] at h; exact h)) ?_
              refine vm (i := 6) (v := .tuple #[bxV b14, .bool true]) rfl rfl rfl ?_
              refine vm (i := 7) (v := bxV b14) rfl rfl rfl ?_
              refine vm (i := 8) (v := .bool true) rfl rfl rfl ?_
              refine wpV_ns (fun g => .pointer (some ⟨g, 0, none⟩)) (i := 9) (obi := .cells (bxC bx0) 26 (0, 0)) rfl rfl rfl (by kernel_rfl) (fun _ => by kernel_rfl) (fun _ => by simp only [List.setIfInBounds_toArray, List.set_cons_succ, List.set_cons_zero] <;> rfl) fun g18 Bg18 Fg18 => ?_
              obtain ⟨dj19_0, dj19_1⟩ : g15 ≠ g18 ∧ Dk g18 Tn := by simpa only [dj_app_l, dj_app_r, dj_cons_l, dj_cons_r, dj_nil_l, dj_nil_r, dk_app, dk_cons, dk_nil, and_true, true_and, and_assoc] using (show Dk g18 ((g15, .cells (bxC b14) 26 (0, 0)) :: Tn) from Fg18)
              refine wpV_s ((g18, .cells (bxC b14) 26 (0, 0)) :: (g15, .cells (bxC b14) 26 (0, 0)) :: Tn) (i := 10) rfl (by kernel_rfl) rfl rfl rfl (st_bx (b := b14) rfl (by kernel_rfl) (by kernel_rfl) (.head _) rfl Bg18 (by kernel_rfl) (List.forall_mem_cons.2 ⟨.inl rfl, (List.forall_mem_cons.2 ⟨.inr ⟨(.tail _ (.head _)), (by first | assumption | exact Ne.symm (by assumption))⟩, (fun p hp => .inr ⟨(.tail _ (.tail _ hp)), ((show Dk g18 Tn from (by (try simp only [dj_app_l, dj_app_r, dj_cons_l, dj_cons_r, dj_nil_l, dj_nil_r, dk_app, dk_cons, dk_nil, and_true, true_and, and_assoc]); repeat' (first | trivial | assumption | exact Dj.symm (by assumption) | exact Ne.symm (by assumption) | apply And.intro))) _ hp)⟩)⟩)⟩)) ?_
              refine vm (i := 11) (v := .bool true) rfl rfl rfl ?_
              refine wpV_done (by kernel_rfl) (fun W26 hW26 => ?_) _
              refine (show Code.wp _ _ _ _ _ from ?_)
              refine wp_seq ?_
              refine wp_region_V (W0 := w) ((g18, .cells (bxC b14) 26 (0, 0)) :: (g15, .cells (bxC b14) 26 (0, 0)) :: Tn) (by kernel_rfl) (hW26) ?_
              refine vm (i := 0) (v := .slice pn nn cn) rfl rfl rfl ?_
              refine vm (i := 1) (v := .int .i64 ((nn : Nat) : Int)) rfl rfl rfl ?_
              refine vp (i := 2) (v := .slice pn nn cn) rfl rfl rfl (run_slt (p := pn) (n := nn) (c := cn) (j := nn) (kd := .i64) (sz := 9) rfl Tryd.underlying22 (by kernel_rfl) (by kernel_rfl) (by kernel_rfl) (by first | omega | assumption)) ?_
              refine vm (i := 3) (v := .pointer (some ⟨g15, 1, none⟩)) rfl rfl rfl ?_
              refine vv (i := 4) (v := strV b14.num) rfl rfl rfl (yb_cell (off := 1) rfl (by kernel_rfl) (.tail _ (.head _)) Tryd.underlying9 rfl (by kernel_rfl)) ?_
              cases hd8 : (decide (b14.num = [])) with
              | false =>
                have h8 : ¬ (b14.num = []) := of_decide_eq_false hd8
                clear hd8
                have hfl20 : ((nl.take nn) : List Bx).length = nn := by first | (simp only [List.length_set]; done) | (simp only [List.length_set, List.length_take]; omega) | omega
                refine vv (i := 5) (v := .tuple #[.int .i64 b14.id, .bool true]) rfl rfl rfl (yb_call (f := 31) (args := #[.slice pn nn cn, strV b14.num]) (fun _ => by kernel_rfl) fun W hW => (by have h := num_is (l := (nl.take nn)) (p := pn) (c := cn) (num_good hgood hy14 h8) (by rw [List.length_take]; omega) W ((bs_take nn hbs) W (hW.sub (fun p hp => by simp only [List.mem_cons, List.mem_append, List.nil_append, List.not_mem_nil, or_assoc, or_false, false_or, hp, true_or, or_true]))); rw [hfl20] at h; exact h)) ?_
                refine vm (i := 6) (v := .tuple #[.int .i64 b14.id, .bool true]) rfl rfl rfl ?_
                refine vm (i := 7) (v := .int .i64 b14.id) rfl rfl rfl ?_
                refine vm (i := 8) (v := .bool true) rfl rfl rfl ?_
                refine vm (i := 9) (v := .int .i64 b14.id) rfl rfl rfl ?_
                refine vm (i := 10) (v := .bool true) rfl rfl rfl ?_
                refine wpV_done (by kernel_rfl) (fun W27 hW27 => ?_) _
                refine (show Code.wp _ _ _ _ _ from ?_)
                refine wp_seq ?_
                refine wp_region_L (W0 := w) ((g18, .cells (bxC b14) 26 (0, 0)) :: (g15, .cells (bxC b14) 26 (0, 0)) :: Tn) (hW27) ?_
                refine lm (v := .bool true) rfl rfl ?_
                refine lm (v := .bool false) rfl rfl ?_
                refine lm (v := .bool false) rfl rfl ?_
                refine lv (v := bxV b14) rfl rfl (yb_load (n := 9) (off := 0) rfl (by kernel_rfl) (.head _) Tryd.underlying26 rfl (by kernel_rfl) (Nat.le_refl 9) (by kernel_rfl)) ?_
                refine lv (v := bxV b14) rfl rfl (yb_load (n := 9) (off := 0) rfl (by kernel_rfl) (.tail _ (.head _)) Tryd.underlying26 rfl (by kernel_rfl) (Nat.le_refl 9) (by kernel_rfl)) ?_
                refine lp (v := .bool false) rfl rfl (run_bin rfl (vx := bxV b14) (vy := bxV b14) (by kernel_rfl) (by kernel_rfl) fun w => neq_bx (decide_eq_true rfl) w) ?_
                refine lm (v := .bool false) rfl rfl ?_
                refine lm (v := .bool false) rfl rfl ?_
                refine lm (v := .bool true) rfl rfl ?_
                refine lm (v := .pointer (some ⟨g15, 1, none⟩)) rfl rfl ?_
                refine lv (v := strV b14.num) rfl rfl (yb_cell (off := 1) rfl (by kernel_rfl) (.tail _ (.head _)) Tryd.underlying9 rfl (by kernel_rfl)) ?_
                refine lp (v := .bool true) rfl rfl (run_bin rfl (vx := strV b14.num) (vy := strV []) (by kernel_rfl) (by kernel_rfl) fun w => bs_neq (decide_eq_false (by assumption)) w) ?_
                refine lm (v := .bool false) rfl rfl ?_
                refine lm (v := .bool false) rfl rfl ?_
                refine lm (v := .bool false) rfl rfl ?_
                refine lm (v := .bool true) rfl rfl ?_
                refine lm (v := .bool true) rfl rfl ?_
                refine lm (v := .int .i64 b14.id) rfl rfl ?_
                refine lm (v := .pointer (some ⟨g15, 0, none⟩)) rfl rfl ?_
                refine lv (v := .int .i64 b14.id) rfl rfl (yb_cell (off := 0) rfl (by kernel_rfl) (.tail _ (.head _)) Tryd.underlying3 rfl (by kernel_rfl)) ?_
                refine lp (v := .bool false) rfl rfl (run_bin rfl (vx := (.int .i64 b14.id)) (vy := (.int .i64 b14.id)) (by kernel_rfl) (by kernel_rfl) fun w => bi_neq (decide_eq_true rfl) w) ?_
                refine lm (v := .bool false) rfl rfl ?_
                refine lm (v := .bool false) rfl rfl ?_
                refine wpL_done (fun W28 hW28 => ?_)
                refine (show Code.wp _ _ _ _ _ from ?_)
                refine wp_cond_false rfl ?_
                refine wp_skip ?_
                refine (show Code.wp _ _ _ _ _ from ?_)
                refine wp_region_L (W0 := w) ((g18, .cells (bxC b14) 26 (0, 0)) :: (g15, .cells (bxC b14) 26 (0, 0)) :: Tn) (hW28) ?_
                refine lp (v := .int .i64 (((k + 1) : Nat) : Int)) rfl rfl (run_bin rfl (vx := (.int .i64 ((k : Nat) : Int))) (vy := (.int .i64 ((1 : Nat) : Int))) (by kernel_rfl) (by kernel_rfl) fun w => bn_add (z := (k + 1)) rfl (wr_i64 (by omega)) w) ?_
                refine lm (v := .int .i64 (((k + 1) : Nat) : Int)) rfl rfl ?_
                refine wpL_done (fun W29 hW29 => ?_)
                go_roundw
                case rel =>
                  repeat apply Exists.intro
                  exact ⟨⟨k + 1, (by omega), rfl, (hW29.sub (fun p hp => by first | exact hp | (simp only [List.mem_cons, List.mem_append, List.nil_append, List.not_mem_nil, or_assoc, or_false, false_or] at hp ⊢ <;> grind)))⟩, rfl⟩
                case measure => (show nn - (intOf (.int .i64 (((k + 1) : Nat) : Int))).toNat < nn - (intOf (.int .i64 ((k : Nat) : Int))).toNat); simp only [intOf]; omega
              | true =>
                have h8 : b14.num = [] := of_decide_eq_true hd8
                clear hd8
                have hfl21 : ((nl.take nn) : List Bx).length = nn := by first | (simp only [List.length_set]; done) | (simp only [List.length_set, List.length_take]; omega) | omega
                refine vv (i := 5) (v := .tuple #[.int .i64 0, .bool false]) rfl rfl rfl (yb_call (f := 31) (args := #[.slice pn nn cn, strV b14.num]) (fun _ => by kernel_rfl) fun W hW => (by have h := num_isn (l := (nl.take nn)) (p := pn) (c := cn) (num_no h8) (by rw [List.length_take]; omega) W ((bs_take nn hbs) W (hW.sub (fun p hp => by simp only [List.mem_cons, List.mem_append, List.nil_append, List.not_mem_nil, or_assoc, or_false, false_or, hp, true_or, or_true]))); rw [hfl21] at h; exact h)) ?_
                refine vm (i := 6) (v := .tuple #[.int .i64 0, .bool false]) rfl rfl rfl ?_
                refine vm (i := 7) (v := .int .i64 0) rfl rfl rfl ?_
                refine vm (i := 8) (v := .bool false) rfl rfl rfl ?_
                refine vm (i := 9) (v := .int .i64 0) rfl rfl rfl ?_
                refine vm (i := 10) (v := .bool false) rfl rfl rfl ?_
                refine wpV_done (by kernel_rfl) (fun W30 hW30 => ?_) _
                refine (show Code.wp _ _ _ _ _ from ?_)
                refine wp_seq ?_
                refine wp_region_L (W0 := w) ((g18, .cells (bxC b14) 26 (0, 0)) :: (g15, .cells (bxC b14) 26 (0, 0)) :: Tn) (hW30) ?_
                refine lm (v := .bool true) rfl rfl ?_
                refine lm (v := .bool false) rfl rfl ?_
                refine lm (v := .bool false) rfl rfl ?_
                refine lv (v := bxV b14) rfl rfl (yb_load (n := 9) (off := 0) rfl (by kernel_rfl) (.head _) Tryd.underlying26 rfl (by kernel_rfl) (Nat.le_refl 9) (by kernel_rfl)) ?_
                refine lv (v := bxV b14) rfl rfl (yb_load (n := 9) (off := 0) rfl (by kernel_rfl) (.tail _ (.head _)) Tryd.underlying26 rfl (by kernel_rfl) (Nat.le_refl 9) (by kernel_rfl)) ?_
                refine lp (v := .bool false) rfl rfl (run_bin rfl (vx := bxV b14) (vy := bxV b14) (by kernel_rfl) (by kernel_rfl) fun w => neq_bx (decide_eq_true rfl) w) ?_
                refine lm (v := .bool false) rfl rfl ?_
                refine lm (v := .bool false) rfl rfl ?_
                refine lm (v := .bool false) rfl rfl ?_
                refine lm (v := .pointer (some ⟨g15, 1, none⟩)) rfl rfl ?_
                refine lv (v := strV b14.num) rfl rfl (yb_cell (off := 1) rfl (by kernel_rfl) (.tail _ (.head _)) Tryd.underlying9 rfl (by kernel_rfl)) ?_
                refine lp (v := .bool false) rfl rfl (run_bin rfl (vx := strV b14.num) (vy := strV []) (by kernel_rfl) (by kernel_rfl) fun w => bs_neq (decide_eq_true (by assumption)) w) ?_
                refine lm (v := .bool false) rfl rfl ?_
                refine lm (v := .bool false) rfl rfl ?_
                refine lm (v := .bool false) rfl rfl ?_
                refine lm (v := .bool false) rfl rfl ?_
                refine lm (v := .bool false) rfl rfl ?_
                refine ln rfl ?_
                refine ln rfl ?_
                refine ln rfl ?_
                refine ln rfl ?_
                refine lm (v := .bool false) rfl rfl ?_
                refine lm (v := .bool false) rfl rfl ?_
                refine wpL_done (fun W31 hW31 => ?_)
                refine (show Code.wp _ _ _ _ _ from ?_)
                refine wp_cond_false rfl ?_
                refine wp_skip ?_
                refine (show Code.wp _ _ _ _ _ from ?_)
                refine wp_region_L (W0 := w) ((g18, .cells (bxC b14) 26 (0, 0)) :: (g15, .cells (bxC b14) 26 (0, 0)) :: Tn) (hW31) ?_
                refine lp (v := .int .i64 (((k + 1) : Nat) : Int)) rfl rfl (run_bin rfl (vx := (.int .i64 ((k : Nat) : Int))) (vy := (.int .i64 ((1 : Nat) : Int))) (by kernel_rfl) (by kernel_rfl) fun w => bn_add (z := (k + 1)) rfl (wr_i64 (by omega)) w) ?_
                refine lm (v := .int .i64 (((k + 1) : Nat) : Int)) rfl rfl ?_
                refine wpL_done (fun W32 hW32 => ?_)
                go_roundw
                case rel =>
                  repeat apply Exists.intro
                  exact ⟨⟨k + 1, (by omega), rfl, (hW32.sub (fun p hp => by first | exact hp | (simp only [List.mem_cons, List.mem_append, List.nil_append, List.not_mem_nil, or_assoc, or_false, false_or] at hp ⊢ <;> grind)))⟩, rfl⟩
                case measure => (show nn - (intOf (.int .i64 (((k + 1) : Nat) : Int))).toNat < nn - (intOf (.int .i64 ((k : Nat) : Int))).toNat); simp only [intOf]; omega
        | true =>
          have h6 : n < (nn + 1) := of_decide_eq_true hd6
          clear hd6
          refine wp_cond_true rfl ?_
          refine wp_skip ?_
          refine (show Code.wp _ _ _ _ _ from ?_)
          refine wp_seq ?_
          refine wp_block ?_
          refine wp_seq ?_
          refine wp_region_L (W0 := w) Tn (hW20) ?_
          refine lm (v := .int .i64 ((n : Nat) : Int)) rfl rfl ?_
          refine lm (v := .int .i64 ((n : Nat) : Int)) rfl rfl ?_
          refine wpL_done (fun W33 hW33 => ?_)
          refine (show Code.wp _ _ _ _ _ from ?_)
          refine wp_seq ?_
          refine wp_region_L (W0 := w) Tn (hW33) ?_
          refine lm (v := .slice pn nn cn) rfl rfl ?_
          refine lm (v := .int .i64 ((n : Nat) : Int)) rfl rfl ?_
          refine lp (v := .slice pn n cn) rfl rfl (run_slt (p := pn) (n := nn) (c := cn) (j := n) (kd := .i64) (sz := 9) rfl Tryd.underlying22 (by kernel_rfl) (by kernel_rfl) (by kernel_rfl) (by first | omega | assumption)) ?_
          have hfl22 : ((nl.take n) : List Bx).length = n := by first | (simp only [List.length_set]; done) | (simp only [List.length_set, List.length_take]; omega) | omega
          refine lv (v := .tuple #[.int .i64 (-1), .int .i64 0]) rfl rfl (yb_call (f := 29) (args := #[.slice pn n cn]) (fun _ => by kernel_rfl) fun W hW => (by have h := valid_is (l := (nl.take n)) (p := pn) (c := cn) (valid_take (by omega) (by omega) (by omega) hgood) (by first | omega | (rw [List.length_take]; omega)) W ((bs_take n hbs) W (hW.sub (fun p hp => by simp only [List.mem_cons, List.mem_append, List.nil_append, List.not_mem_nil, or_assoc, or_false, false_or, hp, true_or, or_true]))); rw [hfl22] at h; exact h)) ?_
          refine lm (v := .tuple #[.int .i64 (-1), .int .i64 0]) rfl rfl ?_
          refine lm (v := .int .i64 (-1)) rfl rfl ?_
          refine lm (v := .int .i64 0) rfl rfl ?_
          refine lm (v := .int .i64 (-1)) rfl rfl ?_
          refine lm (v := .int .i64 0) rfl rfl ?_
          refine wpL_done (fun W34 hW34 => ?_)
          refine (show Code.wp _ _ _ _ _ from ?_)
          refine wp_seq ?_
          refine wp_region_L (W0 := w) Tn (hW34) ?_
          refine lm (v := .int .i64 (-1)) rfl rfl ?_
          refine lm (v := .bool false) rfl rfl ?_
          refine lm (v := .bool false) rfl rfl ?_
          refine lm (v := .int .i64 0) rfl rfl ?_
          refine lm (v := .bool false) rfl rfl ?_
          refine lm (v := .bool false) rfl rfl ?_
          refine wpL_done (fun W35 hW35 => ?_)
          refine (show Code.wp _ _ _ _ _ from ?_)
          refine wp_cond_false rfl ?_
          refine wp_skip ?_
          refine (show Code.wp _ _ _ _ _ from ?_)
          refine wp_region_L (W0 := w) Tn (hW35) ?_
          refine lp (v := .int .i64 (((n + 1) : Nat) : Int)) rfl rfl (run_bin rfl (vx := (.int .i64 ((n : Nat) : Int))) (vy := (.int .i64 ((1 : Nat) : Int))) (by kernel_rfl) (by kernel_rfl) fun w => bn_add (z := (n + 1)) rfl (wr_i64 (by omega)) w) ?_
          refine lm (v := .int .i64 (((n + 1) : Nat) : Int)) rfl rfl ?_
          refine wpL_done (fun W36 hW36 => ?_)
          go_roundw
          case rel =>
            repeat apply Exists.intro
            exact ⟨⟨n + 1, (by omega), rfl, (hW36.sub (fun p hp => by first | exact hp | (simp only [List.mem_cons, List.mem_append, List.nil_append, List.not_mem_nil, or_assoc, or_false, false_or] at hp ⊢ <;> grind)))⟩, rfl⟩
          case measure => (show (nn + 1) - (intOf (.int .i64 (((n + 1) : Nat) : Int))).toNat < (nn + 1) - (intOf (.int .i64 ((n : Nat) : Int))).toNat); simp only [intOf]; omega
    · obtain ⟨hkb, hbad, hgood⟩ := first_some hfb
      refine wp_seq ?_
      refine wp_region_L (W0 := w) Tn (hW1j) ?_
      refine lm (v := .slice pn nn cn) rfl rfl ?_
      have hfl23 : (nl : List Bx).length = nn := by first | (simp only [List.length_set]; done) | (simp only [List.length_set, List.length_take]; omega) | omega
      refine lv (v := .tuple #[.int .i64 ((kb : Nat) : Int), .int .i64 60]) rfl rfl (yb_call (f := 29) (args := #[.slice pn nn cn]) (fun _ => by kernel_rfl) fun W hW => (by have h := valid_is (l := nl) (p := pn) (c := cn) (valid_some (by omega) hkb hgood hbad) (by first | omega | (rw [List.length_take]; omega)) W (hbs W (hW.sub (fun p hp => by simp only [List.mem_cons, List.mem_append, List.nil_append, List.not_mem_nil, or_assoc, or_false, false_or, hp, true_or, or_true]))); rw [hfl23] at h; exact h)) ?_
      refine lm (v := .tuple #[.int .i64 ((kb : Nat) : Int), .int .i64 60]) rfl rfl ?_
      refine lm (v := .int .i64 ((kb : Nat) : Int)) rfl rfl ?_
      refine lm (v := .int .i64 60) rfl rfl ?_
      refine lm (v := .int .i64 ((kb : Nat) : Int)) rfl rfl ?_
      refine lm (v := .int .i64 60) rfl rfl ?_
      refine wpL_done (fun W37 hW37 => ?_)
      refine (show Code.wp _ _ _ _ _ from ?_)
      refine wp_seq ?_
      refine wp_region_L (W0 := w) Tn (hW37) ?_
      refine lm (v := .slice pn nn cn) rfl rfl ?_
      refine lp (v := .int .i64 ((nn : Nat) : Int)) rfl rfl (run_lenL (p := pn) (cap := cn) (n := nn) rfl Tryd.underlying22 (by kernel_rfl)) ?_
      refine lm (v := .int .i64 ((nn : Nat) : Int)) rfl rfl ?_
      refine wpL_done (fun W38 hW38 => ?_)
      refine (show Code.wp _ _ _ _ _ from ?_)
      refine wp_seq ?_
      refine wp_seq ?_
      refine wp_region_L (W0 := w) Tn (hW38) ?_
      refine lm (v := .int .i64 60) rfl rfl ?_
      refine lm (v := .bool true) rfl rfl ?_
      refine wpL_done (fun W39 hW39 => ?_)
      refine (show Code.wp _ _ _ _ _ from ?_)
      refine wp_cond_true rfl ?_
      refine wp_seq ?_
      refine wp_seq ?_
      refine wp_region_L (W0 := w) Tn (hW39) ?_
      refine lm (v := .int .i64 ((kb : Nat) : Int)) rfl rfl ?_
      refine lp (v := .bool false) rfl rfl (run_bin rfl (vx := (.int .i64 ((kb : Nat) : Int))) (vy := (.int .i64 ((0 : Nat) : Int))) (by kernel_rfl) (by kernel_rfl) fun w => bn_lss (decide_eq_false (Nat.not_lt_zero _)) w) ?_
      refine lm (v := .bool false) rfl rfl ?_
      refine lm (v := .int .i64 ((kb : Nat) : Int)) rfl rfl ?_
      refine lm (v := .slice pn nn cn) rfl rfl ?_
      refine lp (v := .int .i64 ((nn : Nat) : Int)) rfl rfl (run_lenL (p := pn) (cap := cn) (n := nn) rfl Tryd.underlying22 (by kernel_rfl)) ?_
      refine lp (v := .bool false) rfl rfl (run_bin rfl (vx := (.int .i64 ((kb : Nat) : Int))) (vy := (.int .i64 ((nn : Nat) : Int))) (by kernel_rfl) (by kernel_rfl) fun w => bn_geq (decide_eq_true (by omega)) w) ?_
      refine lm (v := .bool false) rfl rfl ?_
      refine wpL_done (fun W40 hW40 => ?_)
      refine (show Code.wp _ _ _ _ _ from ?_)
      refine wp_cond_false rfl ?_
      refine wp_skip ?_
      refine (show Code.wp _ _ _ _ _ from ?_)
      refine wp_seq ?_
      refine wp_seq ?_
      refine wp_region_L (W0 := w) Tn (hW40) ?_
      refine lm (v := .slice pn nn cn) rfl rfl ?_
      refine lm (v := .int .i64 ((kb : Nat) : Int)) rfl rfl ?_
      refine lp (v := .int .i64 (((kb + 1) : Nat) : Int)) rfl rfl (run_bin rfl (vx := (.int .i64 ((kb : Nat) : Int))) (vy := (.int .i64 ((1 : Nat) : Int))) (by kernel_rfl) (by kernel_rfl) fun w => bn_add (z := (kb + 1)) rfl (wr_i64 (by omega)) w) ?_
      refine lp (v := .slice pn (kb + 1) cn) rfl rfl (run_slt (p := pn) (n := nn) (c := cn) (j := (kb + 1)) (kd := .i64) (sz := 9) rfl Tryd.underlying22 (by kernel_rfl) (by kernel_rfl) (by kernel_rfl) (by first | omega | assumption)) ?_
      have hfl24 : ((nl.take (kb + 1)) : List Bx).length = (kb + 1) := by first | (simp only [List.length_set]; done) | (simp only [List.length_set, List.length_take]; omega) | omega
      refine lv (v := .tuple #[.int .i64 ((kb : Nat) : Int), .int .i64 60]) rfl rfl (yb_call (f := 29) (args := #[.slice pn (kb + 1) cn]) (fun _ => by kernel_rfl) fun W hW => (by have h := valid_is (l := (nl.take (kb + 1))) (p := pn) (c := cn) (valid_upto (by omega) hkb hbad hgood) (by first | omega | (rw [List.length_take]; omega)) W ((bs_take (kb + 1) hbs) W (hW.sub (fun p hp => by simp only [List.mem_cons, List.mem_append, List.nil_append, List.not_mem_nil, or_assoc, or_false, false_or, hp, true_or, or_true]))); rw [hfl24] at h; exact h)) ?_
      refine lm (v := .tuple #[.int .i64 ((kb : Nat) : Int), .int .i64 60]) rfl rfl ?_
      refine lm (v := .int .i64 ((kb : Nat) : Int)) rfl rfl ?_
      refine lm (v := .int .i64 60) rfl rfl ?_
      refine lm (v := .int .i64 ((kb : Nat) : Int)) rfl rfl ?_
      refine lm (v := .int .i64 60) rfl rfl ?_
      refine wpL_done (fun W41 hW41 => ?_)
      refine (show Code.wp _ _ _ _ _ from ?_)
      refine wp_seq ?_
      refine wp_region_L (W0 := w) Tn (hW41) ?_
      refine lm (v := .int .i64 ((kb : Nat) : Int)) rfl rfl ?_
      refine lm (v := .int .i64 ((kb : Nat) : Int)) rfl rfl ?_
      refine lp (v := .bool false) rfl rfl (run_bin rfl (vx := (.int .i64 ((kb : Nat) : Int))) (vy := (.int .i64 ((kb : Nat) : Int))) (by kernel_rfl) (by kernel_rfl) fun w => bn_neq (decide_eq_true rfl) w) ?_
      refine lm (v := .bool false) rfl rfl ?_
      refine lm (v := .int .i64 60) rfl rfl ?_
      refine lm (v := .bool false) rfl rfl ?_
      refine lm (v := .bool false) rfl rfl ?_
      refine wpL_done (fun W42 hW42 => ?_)
      refine (show Code.wp _ _ _ _ _ from ?_)
      refine wp_cond_false rfl ?_
      refine wp_skip ?_
      refine (show Code.wp _ _ _ _ _ from ?_)
      refine wp_region_L (W0 := w) Tn (hW42) ?_
      refine lm (v := .int .i64 ((kb : Nat) : Int)) rfl rfl ?_
      refine lm (v := .int .i64 ((kb : Nat) : Int)) rfl rfl ?_
      refine wpL_done (fun W43 hW43 => ?_)
      refine (show Code.wp _ _ _ _ _ from ?_)
      refine wp_seq ?_
      refine wp_seq ?_
      refine wp_region_L (W0 := w) Tn (hW43) ?_
      refine lm (v := .int .i64 ((kb : Nat) : Int)) rfl rfl ?_
      refine lp (v := .int .i64 (((kb + 1) : Nat) : Int)) rfl rfl (run_bin rfl (vx := (.int .i64 ((kb : Nat) : Int))) (vy := (.int .i64 ((1 : Nat) : Int))) (by kernel_rfl) (by kernel_rfl) fun w => bn_add (z := (kb + 1)) rfl (wr_i64 (by omega)) w) ?_
      refine lm (v := .int .i64 0) rfl rfl ?_
      refine wpL_done (fun W44 hW44 => ?_)
      refine (show Code.wp _ _ _ _ _ from ?_)
      refine wp_block ?_
      go_loopw [106] (fun u106 wr => ∃ (n : Nat), (n ≤ (kb + 1)) ∧ u106 = .int .i64 ((n : Nat) : Int) ∧ KS w Tn wr) (fun u106 _ => (kb + 1) - (intOf u106).toNat)
      case atStart => exact ⟨0, (Nat.zero_le _), rfl, (hW44.sub (fun p hp => by first | exact hp | (simp only [List.mem_cons, List.mem_append, List.nil_append, List.not_mem_nil, or_assoc, or_false, false_or] at hp ⊢ <;> grind)))⟩
      case round =>
        obtain ⟨n, hn, rfl, hL45⟩ := hrel
        refine wp_seq ?_
        refine wp_region_L (W0 := w) Tn (hL45) ?_
        refine lp (v := .bool (decide (n < (kb + 1)))) rfl rfl (run_bin rfl (vx := (.int .i64 ((n : Nat) : Int))) (vy := (.int .i64 (((kb + 1) : Nat) : Int))) (by kernel_rfl) (by kernel_rfl) fun w => bn_lss rfl w) ?_
        refine wpL_done (fun W46 hW46 => ?_)
        refine (show Code.wp _ _ _ _ _ from ?_)
        refine wp_seq ?_
        cases hd9 : (decide (n < (kb + 1))) with
        | false =>
          have h9 : ¬ (n < (kb + 1)) := of_decide_eq_false hd9
          clear hd9
          refine wp_cond_false rfl ?_
          refine wp_exit ?_
          refine (show Code.wp _ _ _ _ _ from ?_)
          refine wp_seq ?_
          refine wp_seq ?_
          refine wp_region_L (W0 := w) Tn (hW46) ?_
          refine lm (v := .slice pn nn cn) rfl rfl ?_
          refine lm (v := .int .i64 ((kb : Nat) : Int)) rfl rfl ?_
          refine lp (v := .slice pn kb cn) rfl rfl (run_slt (p := pn) (n := nn) (c := cn) (j := kb) (kd := .i64) (sz := 9) rfl Tryd.underlying22 (by kernel_rfl) (by kernel_rfl) (by kernel_rfl) (by first | omega | assumption)) ?_
          refine lp (v := .int .i64 ((kb : Nat) : Int)) rfl rfl (run_lenL (p := pn) (cap := cn) (n := kb) rfl Tryd.underlying22 (by kernel_rfl)) ?_
          refine lm (v := .int .i64 0) rfl rfl ?_
          refine wpL_done (fun W47 hW47 => ?_)
          refine (show Code.wp _ _ _ _ _ from ?_)
          refine wp_block ?_
          go_loopw [127] (fun u127 wr => ∃ (k : Nat), (k ≤ kb) ∧ u127 = .int .i64 ((k : Nat) : Int) ∧ KS w Tn wr) (fun u127 _ => kb - (intOf u127).toNat)
          case atStart => exact ⟨0, (Nat.zero_le _), rfl, (hW47.sub (fun p hp => by first | exact hp | (simp only [List.mem_cons, List.mem_append, List.nil_append, List.not_mem_nil, or_assoc, or_false, false_or] at hp ⊢ <;> grind)))⟩
          case round =>
            obtain ⟨k, hk, rfl, hL48⟩ := hrel
            refine wp_seq ?_
            refine wp_region_L (W0 := w) Tn (hL48) ?_
            refine lp (v := .bool (decide (k < kb))) rfl rfl (run_bin rfl (vx := (.int .i64 ((k : Nat) : Int))) (vy := (.int .i64 ((kb : Nat) : Int))) (by kernel_rfl) (by kernel_rfl) fun w => bn_lss rfl w) ?_
            refine wpL_done (fun W49 hW49 => ?_)
            refine (show Code.wp _ _ _ _ _ from ?_)
            refine wp_seq ?_
            cases hd10 : (decide (k < kb)) with
            | false =>
              have h10 : ¬ (k < kb) := of_decide_eq_false hd10
              clear hd10
              refine wp_cond_false rfl ?_
              refine wp_exit ?_
              refine (show Code.wp _ _ _ _ _ from ?_)
              refine wp_seq ?_
              refine wp_region_L (W0 := w) Tn (hW49) ?_
              refine lv (v := .bool true) rfl rfl (yb_call (f := 12) (args := #[]) (fun _ => by kernel_rfl) fun W hW => awake_any W (HE.out.keep hW.1)) ?_
              refine lm (v := .bool true) rfl rfl ?_
              refine wpL_done (fun W50 hW50 => ?_)
              refine (show Code.wp _ _ _ _ _ from ?_)
              refine wp_ret ?_
              try simp only [inBlock_ret, then_ret]
              refine bodyPost_ret (v := .bool true) ?_ rfl ?_
              · kernel_rfl
              · exact ⟨rfl, hW50.1⟩
            | true =>
              have h10 : k < kb := of_decide_eq_true hd10
              clear hd10
              refine wp_cond_true rfl ?_
              refine wp_skip ?_
              refine (show Code.wp _ _ _ _ _ from ?_)
              refine wp_seq ?_
              refine wp_block ?_
              refine wp_seq ?_
              refine wp_region_L (W0 := w) Tn (hW49) ?_
              obtain ⟨b25, g25_, f25, hy25, hp25, hc25⟩ := ((bs_take kb hbs)).at (hW49.sub (fun p hp => by simp only [List.mem_cons, List.mem_append, List.nil_append, List.not_mem_nil, or_assoc, or_false, false_or, hp, true_or, or_true])) (k := k) (by first | omega | (simp only [List.length_drop, List.length_take, List.length_append]; omega))
              refine lp (v := .pointer (some ⟨g25_, f25 + k * 9, none⟩)) rfl rfl (run_idxQ (p := pn) (cap := cn) (n := kb) (j := .i64) (k := k) (sz := 9) rfl Tryd.underlying22 (by kernel_rfl) (by kernel_rfl) hp25 (by kernel_rfl) (by omega)) ?_
              refine lv (v := bxV b25) rfl rfl (yb_bs (off := f25 + k * 9) (b := b25) rfl (by kernel_rfl) (fun W hW jq vq hv => hc25 W (hW.sub (fun p hp => by simp only [List.mem_cons, List.mem_append, List.nil_append, List.not_mem_nil, or_assoc, or_false, false_or, hp, true_or, or_true])) jq vq hv) Tryd.underlying26 rfl (by kernel_rfl)) ?_
              refine wpL_new (fun g => .pointer (some ⟨g, 0, none⟩)) (obi := .cells (bxC bx0) 26 (0, 0)) rfl rfl (fun _ => by kernel_rfl) (fun _ => by simp only [List.setIfInBounds_toArray, List.set_cons_succ, List.set_cons_zero] <;> rfl) fun g26 Bg26 Fg26 => ?_
              obtain dj27_0 : Dk g26 Tn := by simpa only [dj_app_l, dj_app_r, dj_cons_l, dj_cons_r, dj_nil_l, dj_nil_r, dk_app, dk_cons, dk_nil, and_true, true_and, and_assoc] using (show Dk g26 Tn from Fg26)
              refine wpL_s ((g26, .cells (bxC b25) 26 (0, 0)) :: Tn) rfl rfl (st_bx (b := b25) rfl (by kernel_rfl) (by kernel_rfl) (.head _) rfl Bg26 (by kernel_rfl) (List.forall_mem_cons.2 ⟨.inl rfl, (fun p hp => .inr ⟨(.tail _ hp), ((show Dk g26 Tn from (by (try simp only [dj_app_l, dj_app_r, dj_cons_l, dj_cons_r, dj_nil_l, dj_nil_r, dk_app, dk_cons, dk_nil, and_true, true_and, and_assoc]); repeat' (first | trivial | assumption | exact Dj.symm (by assumption) | exact Ne.symm (by assumption) | apply And.intro))) _ hp)⟩)⟩)) ?_
              refine wpL_done (fun W51 hW51 => ?_)
              refine (show Code.wp _ _ _ _ _ from ?_)
              refine wp_seq ?_
              refine wp_region_V (W0 := w) ((g26, .cells (bxC b25) 26 (0, 0)) :: Tn) (by kernel_rfl) (hW51) ?_
              refine vm (i := 0) (v := .slice pn nn cn) rfl rfl rfl ?_
              refine vm (i := 1) (v := .int .i64 ((kb : Nat) : Int)) rfl rfl rfl ?_
              refine vp (i := 2) (v := .slice pn kb cn) rfl rfl rfl (run_slt (p := pn) (n := nn) (c := cn) (j := kb) (kd := .i64) (sz := 9) rfl Tryd.underlying22 (by kernel_rfl) (by kernel_rfl) (by kernel_rfl) (by first | omega | assumption)) ?_
              refine vm (i := 3) (v := .pointer (some ⟨g26, 0, none⟩)) rfl rfl rfl ?_
              refine vv (i := 4) (v := .int .i64 b25.id) rfl rfl rfl (yb_cell (off := 0) rfl (by kernel_rfl) (.head _) Tryd.underlying3 rfl (by kernel_rfl)) ?_
              have hfl28 : ((nl.take kb) : List Bx).length = kb := by first | (simp only [List.length_set]; done) | (simp only [List.length_set, List.length_take]; omega) | omega
              refine vv (i := 5) (v := .tuple #[bxV b25, .bool true]) rfl rfl rfl (yb_call (f := 30) (args := #[.slice pn kb cn, .int .i64 b25.id]) (fun _ => by kernel_rfl) fun W hW => (by have h := find_is (l := (nl.take kb)) (p := pn) (c := cn) (find_good hgood hy25) (by rw [List.length_take]; omega) W ((bs_take kb hbs) W (hW.sub (fun p hp => by simp only [List.mem_cons, List.mem_append, List.nil_append, List.not_mem_nil, or_assoc, or_false, false_or, hp, true_or, or_true]))); rw [hfl28] at h; exact h)) ?_
              refine vm (i := 6) (v := .tuple #[bxV b25, .bool true]) rfl rfl rfl ?_
              refine vm (i := 7) (v := bxV b25) rfl rfl rfl ?_
              refine vm (i := 8) (v := .bool true) rfl rfl rfl ?_
              refine wpV_ns (fun g => .pointer (some ⟨g, 0, none⟩)) (i := 9) (obi := .cells (bxC bx0) 26 (0, 0)) rfl rfl rfl (by kernel_rfl) (fun _ => by kernel_rfl) (fun _ => by simp only [List.setIfInBounds_toArray, List.set_cons_succ, List.set_cons_zero] <;> rfl) fun g29 Bg29 Fg29 => ?_
              obtain ⟨dj30_0, dj30_1⟩ : g26 ≠ g29 ∧ Dk g29 Tn := by simpa only [dj_app_l, dj_app_r, dj_cons_l, dj_cons_r, dj_nil_l, dj_nil_r, dk_app, dk_cons, dk_nil, and_true, true_and, and_assoc] using (show Dk g29 ((g26, .cells (bxC b25) 26 (0, 0)) :: Tn) from Fg29)
              refine wpV_s ((g29, .cells (bxC b25) 26 (0, 0)) :: (g26, .cells (bxC b25) 26 (0, 0)) :: Tn) (i := 10) rfl (by kernel_rfl) rfl rfl rfl (st_bx (b := b25) rfl (by kernel_rfl) (by kernel_rfl) (.head _) rfl Bg29 (by kernel_rfl) (List.forall_mem_cons.2 ⟨.inl rfl, (List.forall_mem_cons.2 ⟨.inr ⟨(.tail _ (.head _)), (by first | assumption | exact Ne.symm (by assumption))⟩, (fun p hp => .inr ⟨(.tail _ (.tail _ hp)), ((show Dk g29 Tn from (by (try simp only [dj_app_l, dj_app_r, dj_cons_l, dj_cons_r, dj_nil_l, dj_nil_r, dk_app, dk_cons, dk_nil, and_true, true_and, and_assoc]); repeat' (first | trivial | assumption | exact Dj.symm (by assumption) | exact Ne.symm (by assumption) | apply And.intro))) _ hp)⟩)⟩)⟩)) ?_
              refine vm (i := 11) (v := .bool true) rfl rfl rfl ?_
              refine wpV_done (by kernel_rfl) (fun W52 hW52 => ?_) _
              refine (show Code.wp _ _ _ _ _ from ?_)
              refine wp_seq ?_
              refine wp_region_V (W0 := w) ((g29, .cells (bxC b25) 26 (0, 0)) :: (g26, .cells (bxC b25) 26 (0, 0)) :: Tn) (by kernel_rfl) (hW52) ?_
              refine vm (i := 0) (v := .slice pn nn cn) rfl rfl rfl ?_
              refine vm (i := 1) (v := .int .i64 ((kb : Nat) : Int)) rfl rfl rfl ?_
              refine vp (i := 2) (v := .slice pn kb cn) rfl rfl rfl (run_slt (p := pn) (n := nn) (c := cn) (j := kb) (kd := .i64) (sz := 9) rfl Tryd.underlying22 (by kernel_rfl) (by kernel_rfl) (by kernel_rfl) (by first | omega | assumption)) ?_
              refine vm (i := 3) (v := .pointer (some ⟨g26, 1, none⟩)) rfl rfl rfl ?_
              refine vv (i := 4) (v := strV b25.num) rfl rfl rfl (yb_cell (off := 1) rfl (by kernel_rfl) (.tail _ (.head _)) Tryd.underlying9 rfl (by kernel_rfl)) ?_
              cases hd11 : (decide (b25.num = [])) with
              | false =>
                have h11 : ¬ (b25.num = []) := of_decide_eq_false hd11
                clear hd11
                have hfl31 : ((nl.take kb) : List Bx).length = kb := by first | (simp only [List.length_set]; done) | (simp only [List.length_set, List.length_take]; omega) | omega
                refine vv (i := 5) (v := .tuple #[.int .i64 b25.id, .bool true]) rfl rfl rfl (yb_call (f := 31) (args := #[.slice pn kb cn, strV b25.num]) (fun _ => by kernel_rfl) fun W hW => (by have h := num_is (l := (nl.take kb)) (p := pn) (c := cn) (num_good hgood hy25 h11) (by rw [List.length_take]; omega) W ((bs_take kb hbs) W (hW.sub (fun p hp => by simp only [List.mem_cons, List.mem_append, List.nil_append, List.not_mem_nil, or_assoc, or_false, false_or, hp, true_or, or_true]))); rw [hfl31] at h; exact h)) ?_
                refine vm (i := 6) (v := .tuple #[.int .i64 b25.id, .bool true]) rfl rfl rfl ?_
                refine vm (i := 7) (v := .int .i64 b25.id) rfl rfl rfl ?_
                refine vm (i := 8) (v := .bool true) rfl rfl rfl ?_
                refine vm (i := 9) (v := .int .i64 b25.id) rfl rfl rfl ?_
                refine vm (i := 10) (v := .bool true) rfl rfl rfl ?_
                refine wpV_done (by kernel_rfl) (fun W53 hW53 => ?_) _
                refine (show Code.wp _ _ _ _ _ from ?_)
                refine wp_seq ?_
                refine wp_region_L (W0 := w) ((g29, .cells (bxC b25) 26 (0, 0)) :: (g26, .cells (bxC b25) 26 (0, 0)) :: Tn) (hW53) ?_
                refine lm (v := .bool true) rfl rfl ?_
                refine lm (v := .bool false) rfl rfl ?_
                refine lm (v := .bool false) rfl rfl ?_
                refine lv (v := bxV b25) rfl rfl (yb_load (n := 9) (off := 0) rfl (by kernel_rfl) (.head _) Tryd.underlying26 rfl (by kernel_rfl) (Nat.le_refl 9) (by kernel_rfl)) ?_
                refine lv (v := bxV b25) rfl rfl (yb_load (n := 9) (off := 0) rfl (by kernel_rfl) (.tail _ (.head _)) Tryd.underlying26 rfl (by kernel_rfl) (Nat.le_refl 9) (by kernel_rfl)) ?_
                refine lp (v := .bool false) rfl rfl (run_bin rfl (vx := bxV b25) (vy := bxV b25) (by kernel_rfl) (by kernel_rfl) fun w => neq_bx (decide_eq_true rfl) w) ?_
                refine lm (v := .bool false) rfl rfl ?_
                refine lm (v := .bool false) rfl rfl ?_
                refine lm (v := .bool true) rfl rfl ?_
                refine lm (v := .pointer (some ⟨g26, 1, none⟩)) rfl rfl ?_
                refine lv (v := strV b25.num) rfl rfl (yb_cell (off := 1) rfl (by kernel_rfl) (.tail _ (.head _)) Tryd.underlying9 rfl (by kernel_rfl)) ?_
                refine lp (v := .bool true) rfl rfl (run_bin rfl (vx := strV b25.num) (vy := strV []) (by kernel_rfl) (by kernel_rfl) fun w => bs_neq (decide_eq_false (by assumption)) w) ?_
                refine lm (v := .bool false) rfl rfl ?_
                refine lm (v := .bool false) rfl rfl ?_
                refine lm (v := .bool false) rfl rfl ?_
                refine lm (v := .bool true) rfl rfl ?_
                refine lm (v := .bool true) rfl rfl ?_
                refine lm (v := .int .i64 b25.id) rfl rfl ?_
                refine lm (v := .pointer (some ⟨g26, 0, none⟩)) rfl rfl ?_
                refine lv (v := .int .i64 b25.id) rfl rfl (yb_cell (off := 0) rfl (by kernel_rfl) (.tail _ (.head _)) Tryd.underlying3 rfl (by kernel_rfl)) ?_
                refine lp (v := .bool false) rfl rfl (run_bin rfl (vx := (.int .i64 b25.id)) (vy := (.int .i64 b25.id)) (by kernel_rfl) (by kernel_rfl) fun w => bi_neq (decide_eq_true rfl) w) ?_
                refine lm (v := .bool false) rfl rfl ?_
                refine lm (v := .bool false) rfl rfl ?_
                refine wpL_done (fun W54 hW54 => ?_)
                refine (show Code.wp _ _ _ _ _ from ?_)
                refine wp_cond_false rfl ?_
                refine wp_skip ?_
                refine (show Code.wp _ _ _ _ _ from ?_)
                refine wp_region_L (W0 := w) ((g29, .cells (bxC b25) 26 (0, 0)) :: (g26, .cells (bxC b25) 26 (0, 0)) :: Tn) (hW54) ?_
                refine lp (v := .int .i64 (((k + 1) : Nat) : Int)) rfl rfl (run_bin rfl (vx := (.int .i64 ((k : Nat) : Int))) (vy := (.int .i64 ((1 : Nat) : Int))) (by kernel_rfl) (by kernel_rfl) fun w => bn_add (z := (k + 1)) rfl (wr_i64 (by omega)) w) ?_
                refine lm (v := .int .i64 (((k + 1) : Nat) : Int)) rfl rfl ?_
                refine wpL_done (fun W55 hW55 => ?_)
                go_roundw
                case rel =>
                  repeat apply Exists.intro
                  exact ⟨⟨k + 1, (by omega), rfl, (hW55.sub (fun p hp => by first | exact hp | (simp only [List.mem_cons, List.mem_append, List.nil_append, List.not_mem_nil, or_assoc, or_false, false_or] at hp ⊢ <;> grind)))⟩, rfl⟩
                case measure => (show kb - (intOf (.int .i64 (((k + 1) : Nat) : Int))).toNat < kb - (intOf (.int .i64 ((k : Nat) : Int))).toNat); simp only [intOf]; omega
              | true =>
                have h11 : b25.num = [] := of_decide_eq_true hd11
                clear hd11
                have hfl32 : ((nl.take kb) : List Bx).length = kb := by first | (simp only [List.length_set]; done) | (simp only [List.length_set, List.length_take]; omega) | omega
                refine vv (i := 5) (v := .tuple #[.int .i64 0, .bool false]) rfl rfl rfl (yb_call (f := 31) (args := #[.slice pn kb cn, strV b25.num]) (fun _ => by kernel_rfl) fun W hW => (by have h := num_isn (l := (nl.take kb)) (p := pn) (c := cn) (num_no h11) (by rw [List.length_take]; omega) W ((bs_take kb hbs) W (hW.sub (fun p hp => by simp only [List.mem_cons, List.mem_append, List.nil_append, List.not_mem_nil, or_assoc, or_false, false_or, hp, true_or, or_true]))); rw [hfl32] at h; exact h)) ?_
                refine vm (i := 6) (v := .tuple #[.int .i64 0, .bool false]) rfl rfl rfl ?_
                refine vm (i := 7) (v := .int .i64 0) rfl rfl rfl ?_
                refine vm (i := 8) (v := .bool false) rfl rfl rfl ?_
                refine vm (i := 9) (v := .int .i64 0) rfl rfl rfl ?_
                refine vm (i := 10) (v := .bool false) rfl rfl rfl ?_
                refine wpV_done (by kernel_rfl) (fun W56 hW56 => ?_) _
                refine (show Code.wp _ _ _ _ _ from ?_)
                refine wp_seq ?_
                refine wp_region_L (W0 := w) ((g29, .cells (bxC b25) 26 (0, 0)) :: (g26, .cells (bxC b25) 26 (0, 0)) :: Tn) (hW56) ?_
                refine lm (v := .bool true) rfl rfl ?_
                refine lm (v := .bool false) rfl rfl ?_
                refine lm (v := .bool false) rfl rfl ?_
                refine lv (v := bxV b25) rfl rfl (yb_load (n := 9) (off := 0) rfl (by kernel_rfl) (.head _) Tryd.underlying26 rfl (by kernel_rfl) (Nat.le_refl 9) (by kernel_rfl)) ?_
                refine lv (v := bxV b25) rfl rfl (yb_load (n := 9) (off := 0) rfl (by kernel_rfl) (.tail _ (.head _)) Tryd.underlying26 rfl (by kernel_rfl) (Nat.le_refl 9) (by kernel_rfl)) ?_
                refine lp (v := .bool false) rfl rfl (run_bin rfl (vx := bxV b25) (vy := bxV b25) (by kernel_rfl) (by kernel_rfl) fun w => neq_bx (decide_eq_true rfl) w) ?_
                refine lm (v := .bool false) rfl rfl ?_
                refine lm (v := .bool false) rfl rfl ?_
                refine lm (v := .bool false) rfl rfl ?_
                refine lm (v := .pointer (some ⟨g26, 1, none⟩)) rfl rfl ?_
                refine lv (v := strV b25.num) rfl rfl (yb_cell (off := 1) rfl (by kernel_rfl) (.tail _ (.head _)) Tryd.underlying9 rfl (by kernel_rfl)) ?_
                refine lp (v := .bool false) rfl rfl (run_bin rfl (vx := strV b25.num) (vy := strV []) (by kernel_rfl) (by kernel_rfl) fun w => bs_neq (decide_eq_true (by assumption)) w) ?_
                refine lm (v := .bool false) rfl rfl ?_
                refine lm (v := .bool false) rfl rfl ?_
                refine lm (v := .bool false) rfl rfl ?_
                refine lm (v := .bool false) rfl rfl ?_
                refine lm (v := .bool false) rfl rfl ?_
                refine ln rfl ?_
                refine ln rfl ?_
                refine ln rfl ?_
                refine ln rfl ?_
                refine lm (v := .bool false) rfl rfl ?_
                refine lm (v := .bool false) rfl rfl ?_
                refine wpL_done (fun W57 hW57 => ?_)
                refine (show Code.wp _ _ _ _ _ from ?_)
                refine wp_cond_false rfl ?_
                refine wp_skip ?_
                refine (show Code.wp _ _ _ _ _ from ?_)
                refine wp_region_L (W0 := w) ((g29, .cells (bxC b25) 26 (0, 0)) :: (g26, .cells (bxC b25) 26 (0, 0)) :: Tn) (hW57) ?_
                refine lp (v := .int .i64 (((k + 1) : Nat) : Int)) rfl rfl (run_bin rfl (vx := (.int .i64 ((k : Nat) : Int))) (vy := (.int .i64 ((1 : Nat) : Int))) (by kernel_rfl) (by kernel_rfl) fun w => bn_add (z := (k + 1)) rfl (wr_i64 (by omega)) w) ?_
                refine lm (v := .int .i64 (((k + 1) : Nat) : Int)) rfl rfl ?_
                refine wpL_done (fun W58 hW58 => ?_)
                go_roundw
                case rel =>
                  repeat apply Exists.intro
                  exact ⟨⟨k + 1, (by omega), rfl, (hW58.sub (fun p hp => by first | exact hp | (simp only [List.mem_cons, List.mem_append, List.nil_append, List.not_mem_nil, or_assoc, or_false, false_or] at hp ⊢ <;> grind)))⟩, rfl⟩
                case measure => (show kb - (intOf (.int .i64 (((k + 1) : Nat) : Int))).toNat < kb - (intOf (.int .i64 ((k : Nat) : Int))).toNat); simp only [intOf]; omega
        | true =>
          have h9 : n < (kb + 1) := of_decide_eq_true hd9
          clear hd9
          refine wp_cond_true rfl ?_
          refine wp_skip ?_
          refine (show Code.wp _ _ _ _ _ from ?_)
          refine wp_seq ?_
          refine wp_block ?_
          refine wp_seq ?_
          refine wp_region_L (W0 := w) Tn (hW46) ?_
          refine lm (v := .int .i64 ((n : Nat) : Int)) rfl rfl ?_
          refine lm (v := .int .i64 ((n : Nat) : Int)) rfl rfl ?_
          refine wpL_done (fun W59 hW59 => ?_)
          refine (show Code.wp _ _ _ _ _ from ?_)
          refine wp_seq ?_
          refine wp_region_L (W0 := w) Tn (hW59) ?_
          refine lm (v := .slice pn nn cn) rfl rfl ?_
          refine lm (v := .int .i64 ((n : Nat) : Int)) rfl rfl ?_
          refine lp (v := .slice pn n cn) rfl rfl (run_slt (p := pn) (n := nn) (c := cn) (j := n) (kd := .i64) (sz := 9) rfl Tryd.underlying22 (by kernel_rfl) (by kernel_rfl) (by kernel_rfl) (by first | omega | assumption)) ?_
          have hfl33 : ((nl.take n) : List Bx).length = n := by first | (simp only [List.length_set]; done) | (simp only [List.length_set, List.length_take]; omega) | omega
          refine lv (v := .tuple #[.int .i64 (-1), .int .i64 0]) rfl rfl (yb_call (f := 29) (args := #[.slice pn n cn]) (fun _ => by kernel_rfl) fun W hW => (by have h := valid_is (l := (nl.take n)) (p := pn) (c := cn) (valid_take (by omega) (by omega) (by omega) hgood) (by first | omega | (rw [List.length_take]; omega)) W ((bs_take n hbs) W (hW.sub (fun p hp => by simp only [List.mem_cons, List.mem_append, List.nil_append, List.not_mem_nil, or_assoc, or_false, false_or, hp, true_or, or_true]))); rw [hfl33] at h; exact h)) ?_
          refine lm (v := .tuple #[.int .i64 (-1), .int .i64 0]) rfl rfl ?_
          refine lm (v := .int .i64 (-1)) rfl rfl ?_
          refine lm (v := .int .i64 0) rfl rfl ?_
          refine lm (v := .int .i64 (-1)) rfl rfl ?_
          refine lm (v := .int .i64 0) rfl rfl ?_
          refine wpL_done (fun W60 hW60 => ?_)
          refine (show Code.wp _ _ _ _ _ from ?_)
          refine wp_seq ?_
          refine wp_region_L (W0 := w) Tn (hW60) ?_
          refine lm (v := .int .i64 (-1)) rfl rfl ?_
          refine lm (v := .bool false) rfl rfl ?_
          refine lm (v := .bool false) rfl rfl ?_
          refine lm (v := .int .i64 0) rfl rfl ?_
          refine lm (v := .bool false) rfl rfl ?_
          refine lm (v := .bool false) rfl rfl ?_
          refine wpL_done (fun W61 hW61 => ?_)
          refine (show Code.wp _ _ _ _ _ from ?_)
          refine wp_cond_false rfl ?_
          refine wp_skip ?_
          refine (show Code.wp _ _ _ _ _ from ?_)
          refine wp_region_L (W0 := w) Tn (hW61) ?_
          refine lp (v := .int .i64 (((n + 1) : Nat) : Int)) rfl rfl (run_bin rfl (vx := (.int .i64 ((n : Nat) : Int))) (vy := (.int .i64 ((1 : Nat) : Int))) (by kernel_rfl) (by kernel_rfl) fun w => bn_add (z := (n + 1)) rfl (wr_i64 (by omega)) w) ?_
          refine lm (v := .int .i64 (((n + 1) : Nat) : Int)) rfl rfl ?_
          refine wpL_done (fun W62 hW62 => ?_)
          go_roundw
          case rel =>
            repeat apply Exists.intro
            exact ⟨⟨n + 1, (by omega), rfl, (hW62.sub (fun p hp => by first | exact hp | (simp only [List.mem_cons, List.mem_append, List.nil_append, List.not_mem_nil, or_assoc, or_false, false_or] at hp ⊢ <;> grind)))⟩, rfl⟩
          case measure => (show (kb + 1) - (intOf (.int .i64 (((n + 1) : Nat) : Int))).toNat < (kb + 1) - (intOf (.int .i64 ((n : Nat) : Int))).toNat); simp only [intOf]; omega
end Go.Proofs.YtjbbeolapaaiaaaDoor
/- Lists of numbers that are read, cut and handed on: over any program. -/
namespace Tw
open Go Go.RowKit Go.Proofs.YtjbbeolapaaiaaaDoor
def nums (l : List Nat) : List Value := l.map fun n => .int .i64 ((n : Nat) : Int)
theorem nums_len (l : List Nat) : (nums l).length = l.length := by simp [nums]
theorem nums_app (l m : List Nat) : nums (l ++ m) = nums l ++ nums m := by simp [nums]
theorem nums_get {l : List Nat} {k x : Nat} (h : l[k]? = some x) : (nums l)[k]? = some (.int .i64 ((x : Nat) : Int)) := by simp [nums, h]
theorem nums_take (l : List Nat) (k : Nat) : nums (l.take k) = (nums l).take k := by simp [nums, List.map_take]
theorem nums_drop (l : List Nat) (k : Nat) : nums (l.drop k) = (nums l).drop k := by simp [nums, List.map_drop]
theorem nums_one (l : List Nat) : ∀ u ∈ nums l, u.oneCell' = true := by
  intro u hu
  obtain ⟨n, _, rfl⟩ := List.mem_map.1 hu
  rfl
theorem slv_take {W : World} {p : Option Addr} {xs : List Value} (h : SLV W p xs) (k : Nat) : SLV W p (xs.take k) := by
  rcases h with rfl | ⟨b, off, rfl, hlt, hc⟩
  · exact .inl (by simp)
  · refine .inr ⟨b, off, rfl, hlt, fun i u hu => hc i u ?_⟩
    rw [List.getElem?_take] at hu
    split at hu
    · exact hu
    · cases hu
def NS (W0 : Base) (p : Option Addr) (l : List Nat) (T : List (Nat × Obj)) : Prop := ∀ W, KS W0 T W → SLV W p (nums l)
section
variable {W0 : Base} {p : Option Addr} {l : List Nat} {K T : List (Nat × Obj)}
theorem NS.mono (h : NS W0 p l T) (hs : ∀ q ∈ T, q ∈ K) : NS W0 p l K := fun W hW => h W (hW.sub hs)
theorem NS.take (h : NS W0 p l T) (k : Nat) : NS W0 p (l.take k) T := fun W hW => by rw [nums_take]; exact slv_take (h W hW) k
theorem NS.nil : NS W0 p [] T := fun _ _ => .inl rfl
theorem NS.base {W : World} (h : SLV W p (nums l)) : NS (W : Base) p l [] := fun _ hW => h.keep hW.1
theorem NS.at {W : World} {k : Nat} (h : NS W0 p l T) (hW : KS W0 T W) (hk : k < l.length) : ∃ b off, p = some ⟨b, off, none⟩ ∧ ∀ W, KS W0 T W → ∀ (i x : Nat), l[i]? = some x → W.cell? ⟨b, off + i * 1, none⟩ = some (.int .i64 ((x : Nat) : Int)) := by
  have hne : nums l ≠ [] := fun e => by have := nums_len l; rw [e] at this; simp at this; omega
  rcases h W hW with h0 | ⟨b, off, rfl, _, _⟩
  · exact absurd h0 hne
  · refine ⟨b, off, rfl, fun W2 hW2 i x hx => ?_⟩
    rcases h W2 hW2 with h0 | ⟨b', off', he, _, hc⟩
    · exact absurd h0 hne
    · cases he
      rw [Nat.mul_one]
      exact hc i _ (nums_get hx)
theorem NS.drop {W : World} {c k : Nat} (h : NS W0 p l T) (hW : KS W0 T W) (hc : l.length ≤ c) : NS W0 (if c = k then p else p.map (·.add (k * 1))) (l.drop k) T := by
  rcases Nat.lt_or_ge k l.length with h1 | h1
  · obtain ⟨b, off, rfl, h2⟩ := h.at hW h1
    rw [if_neg (by omega)]
    intro W2 hW2
    rcases h W2 hW2 with h0 | ⟨b', off', he, hlt, hc⟩
    · have := nums_len l; rw [h0] at this; simp at this; omega
    · cases he
      refine .inr ⟨b, off + k * 1, by simp [addr_add], hlt, fun i u hu => ?_⟩
      rw [nums_drop, List.getElem?_drop] at hu
      rw [Nat.mul_one, Nat.add_assoc]
      exact hc _ u hu
  · rw [List.drop_of_length_le h1]; exact NS.nil
theorem cell_same {w w2 : World} {b off : Nat} (h : w.heap[b]? = w2.heap[b]?) : w.cell? ⟨b, off, none⟩ = w2.cell? ⟨b, off, none⟩ := by
  unfold World.cell?; simp only [h]
theorem ns_of {W w2 : World} (hW : KS W0 K W) (hB : Below W.heap.size W w2) (hs : SLV w2 p (nums l)) : ∃ K2, KS W0 K2 w2 ∧ (∀ q ∈ K, q ∈ K2) ∧ NS W0 p l K2 := by
  have hK := hW.below hB
  rcases hs with h0 | ⟨b, off, rfl, hlt, hc⟩
  · exact ⟨K, hK, fun _ h => h, fun _ _ => .inl h0⟩
  · have hb : w2.heap[b]? = some (w2.heap[b]) := Array.getElem?_eq_getElem hlt
    refine ⟨(b, w2.heap[b]) :: K, ⟨hK.1, fun q hq => ?_⟩, fun q hq => .tail _ hq, fun W3 hW3 => .inr ⟨b, off, rfl, ?_, fun i u hu => ?_⟩⟩
    · rcases List.mem_cons.1 hq with rfl | h
      · exact hb
      · exact hK.2 q h
    · have := hW3.2 _ (.head _); exact lt_of_block this
    · rw [cell_same (w2 := w2) (by rw [hW3.2 _ (.head _)]; exact hb.symm)]; exact hc i u hu
def SLF (W w2 : World) (p : Option Addr) (xs : List Value) : Prop := xs = [] ∨ ∃ b off, p = some ⟨b, off, none⟩ ∧ W.heap.size ≤ b ∧ b < w2.heap.size ∧ Cel w2 b off xs
theorem SLF.slv {W w2 : World} {xs : List Value} (h : SLF W w2 p xs) : SLV w2 p xs := h.imp id fun ⟨b, off, h1, _, h2, h3⟩ => ⟨b, off, h1, h2, h3⟩
theorem SLF.back {V W w2 : World} {xs : List Value} (h : SLF W w2 p xs) (hs : V.heap.size ≤ W.heap.size) : SLF V w2 p xs := h.imp id fun ⟨b, off, h1, h2, h3⟩ => ⟨b, off, h1, by omega, h3⟩
theorem SLF.take {W w2 : World} {xs : List Value} (h : SLF W w2 p xs) (k : Nat) : SLF W w2 p (xs.take k) := by
  rcases h with rfl | ⟨b, off, rfl, h1, h2, hc⟩
  · exact .inl (by simp)
  · refine .inr ⟨b, off, rfl, h1, h2, fun i u hu => hc i u ?_⟩
    rw [List.getElem?_take] at hu
    split at hu
    · exact hu
    · cases hu
theorem ns_new {W w2 : World} (hW : KS W0 K W) (hB : Below W.heap.size W w2) (hs : SLF W w2 p (nums l)) : ∃ T, KS W0 (K ++ T) w2 ∧ Dj K T ∧ NS W0 p l T ∧ ∀ W3, KS W0 T W3 → W0.B = W0.w.heap.size → SLF W0.w W3 p (nums l) := by
  have hK := hW.below hB
  rcases hs with h0 | ⟨b, off, rfl, hge, hlt, hc⟩
  · exact ⟨[], by rw [List.append_nil]; exact hK, fun _ _ _ h => (by cases h), fun _ _ => .inl h0, fun _ _ _ => .inl h0⟩
  · have hb : w2.heap[b]? = some (w2.heap[b]) := Array.getElem?_eq_getElem hlt
    refine ⟨[(b, w2.heap[b])], ⟨hK.1, fun q hq => ?_⟩, fun q hq r hr e => ?_, fun W3 hW3 => .inr ⟨b, off, rfl, ?_, fun i u hu => ?_⟩, fun W3 hW3 e => .inr ⟨b, off, rfl, ?_, ?_, fun i u hu => ?_⟩⟩
    · rcases List.mem_append.1 hq with h | h
      · exact hK.2 q h
      · cases List.mem_singleton.1 h; exact hb
    · cases List.mem_singleton.1 hr
      have := lt_of_block (hW.2 q hq)
      have e' : b = q.1 := e
      omega
    · have := hW3.2 _ (.head _); exact lt_of_block this
    · rw [cell_same (w2 := w2) (by rw [hW3.2 _ (.head _)]; exact hb.symm)]; exact hc i u hu
    · have := hW.size; omega
    · have := hW3.2 _ (.head _); exact lt_of_block this
    · rw [cell_same (w2 := w2) (by rw [hW3.2 _ (.head _)]; exact hb.symm)]; exact hc i u hu
theorem own_ns {E : TypeId} {v : Value} {n : Nat} (h : OwnL W0 E 1 v n (nums l) T) : ∃ p c, v = .slice p n c ∧ n ≤ c ∧ NS W0 p l T ∧ ∀ W w2, KS W0 T W → W0.B = W0.w.heap.size → Below W.heap.size W w2 → SLF W0.w w2 p (nums l) := by
  rcases h with ⟨rfl, h2, rfl, rfl⟩ | ⟨g, cap, cur, rfl, hB, hR, rfl⟩
  · exact ⟨none, 0, rfl, Nat.le_refl _, fun _ _ => .inl h2, fun _ _ _ _ _ => .inl h2⟩
  · refine ⟨_, cap, rfl, hR.2.2.1, fun W hW => ?_, fun W w2 hW e hb => ?_⟩
    · have hb := hW.2 _ (.head _)
      exact .inr ⟨g, 0, rfl, lt_of_block hb, hR.cel hb⟩
    · have h1 := (hW.below hb).2 _ (.head _)
      exact .inr ⟨g, 0, rfl, by omega, lt_of_block h1, hR.cel h1⟩
theorem own_ncap {E : TypeId} {v : Value} {n : Nat} {xs : List Value} (h : OwnL W0 E 1 v n xs T) : xs.length = n := by
  rcases h with ⟨rfl, h2, rfl, rfl⟩ | ⟨g, cap, cur, rfl, hB, hR, rfl⟩
  · simp [h2]
  · have := hR.2.2.2.1; omega
theorem own_row {E : TypeId} {g n : Nat} {xs : List Value} (hB : W0.B ≤ g) (hl : xs.length = n) (hm : n ≤ 4000000000) : OwnL W0 E 1 (.slice (some ⟨g, 0, none⟩) n n) n xs [(g, .cells xs.toArray E (0, 0))] :=
  .inr ⟨g, n, _, rfl, hB, ⟨by simp [hl], by unfold maxLen; omega, Nat.le_refl _, by simp [hl], by simp [← hl]⟩, rfl⟩
end
section
variable {P : Program} {T E : TypeId} {W0 : Base}
theorem yb_ns {o : Oper} {a : Act} {K : List (Nat × Obj)} {ty : TypeId} {x : Operand} {g off : Nat} {v : Value} {d : TypeDesc} (ho : o.op = .load ty x) (hx : a.eval x = .pointer (some ⟨g, off, none⟩))
    (hc : ∀ W, KS W0 K W → W.cell? ⟨g, off, none⟩ = some v) (hu : P.underlying ty = some d) (hd : aggD d = false) :
    ∀ w, KS W0 K w → ∀ K' : Act → World → Prop, (∀ w', Below w.heap.size w w' → K' (a.put o.dst v) w') → Oper.wp P o a w K' (fun _ _ _ => False) := by
  intro w hw K' hk
  have hagg : (isAgg ty).run P w = .ok false w := by
    unfold isAgg
    rw [Sem.run_bind, run_underlying hu w]
    unfold aggD at hd
    cases d <;> simp_all
  have hr : (loadVar ty ⟨g, off, none⟩).run P w = .ok v w := by
    simp [loadVar, Sem.run_bind, hagg, hc w hw]
  unfold Oper.wp execOp
  simp only [ho, hx, Instr.loadAt, Instr.sureAddr, Sem.run_bind, Sem.run_pure, Result.andThen_ok, hr]
  exact hk w (Below.refl _ _)
theorem run_cutH {o : Oper} {a : Act} {p : Option Addr} {n c j sz : Nat} {x p2 : Operand} {k2 : IntKind} (ho : o.op = .slice T x none (some p2) none) (hT : P.underlying T = some (.slice E)) (hsz : (P.info? E).map (·.size) = some sz) (hx : a.eval x = .slice p n c) (h2 : a.eval p2 = .int k2 ((j : Nat) : Int)) (hl : j ≤ c) (w : World) : (execOp a.eval o).run P w = .ok (.value (.slice p j c)) w := by
  unfold execOp
  rw [ho]
  have e2 := fun q => sl_bound (P := P) (k := k2) (c := q) hl w
  cases hq : P.info? E with
  | none => simp [hq] at hsz
  | some i =>
    have hp : (if c = 0 then p else p.map (·.add (0 * i.size))) = p := by
      split
      · rfl
      · cases p with
        | none => rfl
        | some q => obtain ⟨b, off, s⟩ := q; simp [Addr.add]
    simp [Instr.sliceAt, Instr.slice, Instr.sliceBounds, hx, h2, run_underlying hT, e2, Go.sizeOf, typeInfo, hq]
    cases p with
    | none => simp
    | some q => obtain ⟨b, off, s⟩ := q; simp [Addr.add]
theorem run_cutL {o : Oper} {a : Act} {p : Option Addr} {n c i : Nat} {x p1 : Operand} {k1 : IntKind} (ho : o.op = .slice T x (some p1) none none) (hT : P.underlying T = some (.slice E)) (hsz : (P.info? E).map (·.size) = some 1) (hx : a.eval x = .slice p n c) (h1 : a.eval p1 = .int k1 ((i : Nat) : Int)) (hl : i ≤ n) (w : World) : (execOp a.eval o).run P w = .ok (.value (.slice (if c = i then p else p.map (·.add (i * 1))) (n - i) (c - i))) w := by
  unfold execOp
  rw [ho]
  have e1 := fun q => sl_bound (P := P) (k := k1) (c := q) hl w
  cases hq : P.info? E with
  | none => simp [hq] at hsz
  | some j =>
    have hs : j.size = 1 := by simpa [hq] using hsz
    simp [Instr.sliceAt, Instr.slice, Instr.sliceBounds, hx, h1, run_underlying hT, e1, Go.sizeOf, typeInfo, hq, hs]
theorem src_ns {K : List (Nat × Obj)} {U : TypeId} {p : Option Addr} {l : List Nat} {m c : Nat} (hU : P.underlying U = some (.slice E)) (h : NS W0 p l K) (hm : m = l.length) : ∀ w, KS W0 K w → Src P 1 U (.slice p m c) m (nums l) w := by
  intro w hw
  subst hm
  rcases h w hw with h0 | ⟨b, off, rfl, hlt, hc⟩
  · have hl : l = [] := by
      have := nums_len l; rw [h0] at this; exact List.eq_nil_of_length_eq_zero this.symm
    subst hl
    cases p with
    | none => exact Src.ofNil w hU c
    | some ad => exact Src.ofSlice w hU ad 0 c [] (by simp) (fun j u h => by simp at h) (fun u hu => by cases hu)
  · exact Src.ofSlice w hU ⟨b, off, none⟩ l.length c (nums l) (by simp [nums_len]) (fun j u hj => by rw [addr_add]; exact hc j u hj) (nums_one l)
theorem run_mk {o : Oper} {a : Act} {n : Nat} {x y : Operand} {b : Nat} (ho : o.op = .makeSlice T x y) (hT : P.underlying T = some (.slice E)) (hi : (P.info? E).map (fun i => (i.zero, i.size, i.bytes)) = some (some (.int .i64 0), 1, b)) (hb : b ≤ 10000)
    (hx : a.eval x = .int .i64 ((n : Nat) : Int)) (hy : a.eval y = .int .i64 ((n : Nat) : Int)) (hn : n ≤ 4000000000) (w : World) : (execOp a.eval o).run P w = .ok (.value (.slice (some ⟨w.heap.size, 0, none⟩) n n)) (w.alloc (.cells (nums (List.replicate n 0)).toArray E (0, 0))) := by
  unfold execOp
  rw [ho]
  have h1 : b * n ≤ 281474976710656 := Nat.le_trans (Nat.mul_le_mul hb hn) (by decide)
  have h2 := run_make_row' (P := P) T E (.int .i64 0) b hT hi rfl .i64 .i64 n h1 (by omega) w
  have h3 : madeCells #[.int .i64 0] n = (nums (List.replicate n 0)).toArray := by
    apply Array.ext'
    rw [toList_madeCells_one]
    simp [nums]
  rw [h3] at h2
  simp [hx, hy, h2]
end
def Ans (w : World) (l : List Nat) (e : Ending) (w' : World) : Prop := ∃ q d, e = .returned (.slice q l.length d) ∧ l.length ≤ d ∧ SLF w w' q (nums l) ∧ Below w.heap.size w w'
def AnsV (w : World) (l : List Nat) (e : Ending) (w' : World) : Prop := ∃ q d, e = .returned (.slice q l.length d) ∧ l.length ≤ d ∧ SLV w' q (nums l) ∧ Below w.heap.size w w'
def AnsG (W0 : Base) (K : List (Nat × Obj)) (l : List Nat) (v : Value) (K2 : List (Nat × Obj)) : Prop := ∃ q d T, v = .slice q l.length d ∧ l.length ≤ d ∧ NS W0 q l T ∧ (∀ W3, KS W0 T W3 → W0.B = W0.w.heap.size → SLF W0.w W3 q (nums l)) ∧ Dj K T ∧ K2 = K ++ T
def AnsW (W0 : Base) (K : List (Nat × Obj)) (l : List Nat) (v : Value) (K2 : List (Nat × Obj)) : Prop := ∃ q d T, v = .slice q l.length d ∧ l.length ≤ d ∧ NS W0 q l T ∧ K2 = K ++ T
def Ans2 (w : World) (l m : List Nat) (e : Ending) (w' : World) : Prop := ∃ q d q2 d2, e = .returned (.tuple #[.slice q l.length d, .slice q2 m.length d2]) ∧ l.length ≤ d ∧ m.length ≤ d2 ∧ SLV w' q (nums l) ∧ SLV w' q2 (nums m) ∧ Below w.heap.size w w'
def AnsW2 (W0 : Base) (K : List (Nat × Obj)) (l m : List Nat) (v : Value) (K2 : List (Nat × Obj)) : Prop := ∃ q d q2 d2 T, v = .tuple #[.slice q l.length d, .slice q2 m.length d2] ∧ l.length ≤ d ∧ m.length ≤ d2 ∧ NS W0 q l T ∧ NS W0 q2 m T ∧ K2 = K ++ T
section
variable {W0 : Base} {K : List (Nat × Obj)} {W w2 : World} {l m : List Nat} {e : Ending}
theorem Ans.v (h : Ans W l e w2) : AnsV W l e w2 := by
  obtain ⟨q, d, h1, h2, h3, h4⟩ := h
  exact ⟨q, d, h1, h2, h3.slv, h4⟩
theorem Ans.g (h : Ans W l e w2) (hW : KS W0 K W) : ∃ v K2, e = .returned v ∧ KS W0 K2 w2 ∧ AnsG W0 K l v K2 := by
  obtain ⟨q, d, h1, h2, h3, h4⟩ := h
  obtain ⟨T, a1, a2, a3, a4⟩ := ns_new hW h4 h3
  exact ⟨_, _, h1, a1, q, d, T, rfl, h2, a3, a4, a2, rfl⟩
theorem ns_of' {p : Option Addr} (hW : KS W0 K W) (hB : Below W.heap.size W w2) (hs : SLV w2 p (nums l)) : ∃ T, KS W0 (K ++ T) w2 ∧ NS W0 p l T := by
  have hK := hW.below hB
  rcases hs with h0 | ⟨b, off, rfl, hlt, hc⟩
  · exact ⟨[], by rw [List.append_nil]; exact hK, fun _ _ => .inl h0⟩
  · have hb : w2.heap[b]? = some (w2.heap[b]) := Array.getElem?_eq_getElem hlt
    refine ⟨[(b, w2.heap[b])], ⟨hK.1, fun q hq => ?_⟩, fun W3 hW3 => .inr ⟨b, off, rfl, ?_, fun i u hu => ?_⟩⟩
    · rcases List.mem_append.1 hq with h | h
      · exact hK.2 q h
      · cases List.mem_singleton.1 h; exact hb
    · have := hW3.2 _ (.head _); exact lt_of_block this
    · rw [cell_same (w2 := w2) (by rw [hW3.2 _ (.head _)]; exact hb.symm)]; exact hc i u hu
theorem AnsV.g (h : AnsV W l e w2) (hW : KS W0 K W) : ∃ v K2, e = .returned v ∧ KS W0 K2 w2 ∧ AnsW W0 K l v K2 := by
  obtain ⟨q, d, h1, h2, h3, h4⟩ := h
  obtain ⟨T, a1, a3⟩ := ns_of' hW h4 h3
  exact ⟨_, _, h1, a1, q, d, T, rfl, h2, a3, rfl⟩
theorem Ans2.g (h : Ans2 W l m e w2) (hW : KS W0 K W) : ∃ v K2, e = .returned v ∧ KS W0 K2 w2 ∧ AnsW2 W0 K l m v K2 := by
  obtain ⟨q, d, q2, d2, h1, h2, h3, h4, h5, h6⟩ := h
  obtain ⟨T, a1, a3⟩ := ns_of' hW h6 h4
  obtain ⟨U, b1, b3⟩ := ns_of' a1 (Below.refl _ _) h5
  refine ⟨_, _, h1, b1, q, d, q2, d2, T ++ U, rfl, h2, h3, a3.mono (fun q hq => List.mem_append_left _ hq), b3.mono (fun q hq => List.mem_append_right _ hq), by rw [List.append_assoc]⟩
theorem ns_blk {g : Nat} {E : TypeId} {fr : Nat × Nat} : NS W0 (some ⟨g, 0, none⟩) l [(g, .cells (nums l).toArray E fr)] := fun W hW => by
  have hb := hW.2 _ (.head _)
  refine .inr ⟨g, 0, rfl, lt_of_block hb, fun i u hu => ?_⟩
  rw [Nat.zero_add, cell_of_row W g i _ _ fr hb]
  simpa using hu
theorem own_snoc {E : TypeId} {v : Value} {n d : Nat} (h : OwnL W0 E 1 v n (nums l ++ [.int .i64 ((d : Nat) : Int)]) K) : OwnL W0 E 1 v n (nums (l ++ [d])) K := by
  rw [nums_app]; exact h
theorem own_snocZ {E : TypeId} {v : Value} {n : Nat} {z : Int} (h : OwnL W0 E 1 v n (nums l ++ [.int .i64 z]) K) (hz : 0 ≤ z) : OwnL W0 E 1 v n (nums (l ++ [z.toNat])) K := by
  rw [nums_app]
  have e : ((z.toNat : Nat) : Int) = z := Int.toNat_of_nonneg hz
  simp only [nums, List.map_cons, List.map_nil, e]
  exact h
theorem own_len {E : TypeId} {v : Value} {n : Nat} (h : OwnL W0 E 1 v n (nums l) K) : l.length = n := by rw [← nums_len]; exact own_ncap h
theorem ret_sl {p : Option Addr} {a b c : Nat} (h : a = b) : Ending.returned (.slice p a c) = Ending.returned (.slice p b c) := by rw [h]
end
section
variable {P : Program} {W0 : Base}
theorem st_to {o : Oper} {a : Act} {K K' : List (Nat × Obj)} {ty t : TypeId} {x y : Operand} {g off : Nat} {cs cs' : Array Value} {fr : Nat × Nat} {v : Value} (hc' : cs.setIfInBounds off v = cs') (ho : o.op = .store ty x y) (hx : a.eval x = .pointer (some ⟨g, off, none⟩)) (hv : a.eval y = v)
    (hm : (g, .cells cs t fr) ∈ K) (hB : W0.B ≤ g) (hi : (P.info? ty).map (·.size) = some 1) (hvc : v.cells = #[v]) (h1 : v.oneCell' = true) (hfit : off < cs.size) (hfr : cs.size ≤ fr.1 ∨ fr.2 = 0)
    (hK : ∀ p ∈ K', p = (g, .cells cs' t fr) ∨ (p ∈ K ∧ p.1 ≠ g)) : ∀ w, KS W0 K w → ∃ w', (execOp a.eval o).run P w = .ok .skip w' ∧ KS W0 K' w' := by
  subst hc'
  exact st_at ho hx hv hm hB hi hvc h1 hfit hfr hK
theorem st_all {o : Oper} {a : Act} {K K' : List (Nat × Obj)} {ty t : TypeId} {x y : Operand} {g : Nat} {cs cs' : Array Value} (hs : cs.size = cs'.size) (h1 : ∀ x ∈ cs'.toList, x.oneCell' = true) (ho : o.op = .store ty x y) (hx : a.eval x = .pointer (some ⟨g, 0, none⟩)) (hv : a.eval y = .agg cs')
    (hm : (g, .cells cs t (0, 0)) ∈ K) (hB : W0.B ≤ g) (hi : (P.info? ty).map (·.size) = some cs'.size)
    (hK : ∀ p ∈ K', p = (g, .cells cs' t (0, 0)) ∨ (p ∈ K ∧ p.1 ≠ g)) : ∀ w, KS W0 K w → ∃ w', (execOp a.eval o).run P w = .ok .skip w' ∧ KS W0 K' w' := by
  refine st_row ho hx hv hm hB hi (by show 0 + cs'.size ≤ cs.size; omega) h1 ?_ hK
  show cs' = (cs.toList.take 0 ++ cs'.toList ++ cs.toList.drop (0 + cs'.toList.length)).toArray
  rw [List.take_zero, List.nil_append, Nat.zero_add, List.drop_of_length_le (by simp; omega), List.append_nil]
theorem yb_all {o : Oper} {a : Act} {K : List (Nat × Obj)} {ty t : TypeId} {x : Operand} {g : Nat} {cur : Array Value} {fr : Nat × Nat} {d : TypeDesc} (ho : o.op = .load ty x) (hx : a.eval x = .pointer (some ⟨g, 0, none⟩))
    (hm : (g, .cells cur t fr) ∈ K) (hu : P.underlying ty = some d) (hd : aggD d = true) (hi : (P.info? ty).map (·.size) = some cur.size) :
    ∀ w, KS W0 K w → ∀ K' : Act → World → Prop, (∀ w', Below w.heap.size w w' → K' (a.put o.dst (.agg cur)) w') → Oper.wp P o a w K' (fun _ _ _ => False) :=
  yb_cells (cs := cur.toList) ho hx hm (fun j v hj => by rw [Nat.zero_add]; simpa using hj) hu hd (by simpa using hi)
theorem un_neg {k : IntKind} {x z : Int} (h : -x = z) (hw : k.wrap z = z) (w : World) : (Op.unary .neg (.int k x) : Sem Value).run P w = .ok (.int k z) w := by
  subst h
  simp [Op.unary, Op.intArith, Int.zero_sub, hw]
theorem run_minN {o : Oper} {a : Act} {x y : Nat} {px py : Operand} {k : IntKind} {tt : Array TypeId} (ho : o.op = .call { callee := .builtin .min, args := #[px, py], argTypes := tt }) (hx : a.eval px = .int k ((x : Nat) : Int)) (hy : a.eval py = .int k ((y : Nat) : Int)) (w : World) : (execOp a.eval o).run P w = .ok (.value (.int k ((min x y : Nat) : Int))) w := by
  unfold execOp
  rw [ho]
  have h := run_min_int2 (P := P) w tt o.type k k x y
  simp only [resolve, invoke, builtin, Sem.run_bind, Sem.run_pure, Result.andThen_ok, List.map_toArray, List.map_cons, List.map_nil, hx, hy, h]
  congr 2
  simp only [Nat.min_def]
  split <;> split <;> first | rfl | (exfalso; omega)
theorem nums_set (l : List Nat) (i x : Nat) : (nums l).toArray.setIfInBounds (0 + i * 1) (.int .i64 ((x : Nat) : Int)) = (nums (l.set i x)).toArray := by
  rw [Nat.zero_add, Nat.mul_one, List.setIfInBounds_toArray]
  simp [nums, List.map_set]
end
end Tw
namespace Go.Proofs.YtjbbeolapaaiaaaDoor
open Go Go.RowKit Tw
theorem opens_u8 : OpensC Tryd.prog 5 u8C (fun n => n ≤ 255) := by
  intro H enc w base sp held fuel cs x h
  obtain ⟨n, rfl, h1, h2⟩ := fld_int Tryd.underlying5 h
  have h3 : 0 ≤ n := h1
  have h4 : n ≤ 255 := h2
  refine ⟨n.toNat, ?_, by omega⟩
  unfold u8C
  rw [Int.toNat_of_nonneg h3]
theorem slv_pre8 {W : World} {p : Option Addr} {l : List Nat} (n : Nat) (h : SLV W p (l.flatMap u8C)) : SLV W p ((l.take n).flatMap u8C) := by
  rw [← flat_take u8C_len]
  exact slv_prefix _ h
theorem same_is (A B : List Bx) (pA pB : Option Addr) (cA cB : Nat) {nA nB : Nat} (eA : A.length = nA) (eB : B.length = nB) (lA : A.length ≤ 4000000000) (w : World) (hA : SLV w pA (bcs A)) (hB : SLV w pB (bcs B)) (h : A = B) : Calls Tryd.prog 28 #[.slice pA nA cA, .slice pB nB cB] w fun e w' => e = .returned (.bool true) ∧ Below w.heap.size w w' := by
  subst eA; subst eB
  exact same_true A B pA pB cA cB lA w hA hB h
set_option maxRecDepth 100000 in
set_option maxHeartbeats 40000000 in
theorem BoxOrder_law (w : World) (hE : Env w) (l0 : List Sk) (p0 : Option Addr) (c0 : Nat) (hb0 : SLV w p0 (l0.flatMap skC)) (hok0 : ∀ x ∈ l0, skOk x) (hl0 : l0.length ≤ maxLen) (hc0 : l0.length ≤ c0) (l1 : List Nat) (p1 : Option Addr) (c1 : Nat) (hb1 : SLV w p1 (l1.flatMap u8C)) (hok1 : ∀ x ∈ l1, x ≤ 255) (hl1 : l1.length ≤ maxLen) (hc1 : l1.length ≤ c1) : Calls Tryd.prog 8 #[.slice p0 l0.length c0, .slice p1 l1.length c1] w fun e w' => e = .returned (.bool true) ∧ Below w.heap.size w w' := by
  have HE := Lib.hid hE
  clear hE
  have HB0 := Lib.hid hb0
  clear hb0
  have hll0 : l0.length ≤ 9223372036854775807 := by unfold maxLen at hl0; omega
  have hla0 := loaded_len l0
  have hra0 := loaded_right hok0
  have HB1 := Lib.hid hb1
  clear hb1
  have hll1 : l1.length ≤ 9223372036854775807 := by unfold maxLen at hl1; omega
  go_enter Tryd.func8, Tryd.ntmps8
  refine wp_seq ?_
  refine wp_region_L (W0 := w) [] (KS.start w) ?_
  refine lm (v := .bool false) rfl rfl ?_
  refine wpL_done (fun W1 hW1 => ?_)
  refine (show Code.wp _ _ _ _ _ from ?_)
  refine wp_seq ?_
  refine wp_region_L (W0 := w) [] (hW1) ?_
  refine lm (v := .slice p0 l0.length c0) rfl rfl ?_
  refine wpL_c (f := 24) (args := #[.slice p0 l0.length c0]) (fun v K9 => ∃ Kl, OwnL w 26 9 v (loadedX l0).length (bcs (loadedX l0)) Kl ∧ (∀ p ∈ ([] : List (Nat × Obj)), ∀ q ∈ Kl, q.1 ≠ p.1) ∧ K9 = [] ++ Kl) rfl (by kernel_rfl) (fun _ => (by kernel_rfl)) (fun W hW => calls_out hW (Loaded_any l0 p0 c0 hok0 hll0 hc0 W (HB0.out.keep hW.1))) (fun _ => by simp only [List.setIfInBounds_toArray, List.set_cons_succ, List.set_cons_zero] <;> rfl) ?_
  rintro v1 Kl1 ⟨_, O1, N1, rfl⟩
  refine lm (v := v1) rfl rfl ?_
  refine wpL_done (fun W2 hW2 => ?_)
  refine (show Code.wp _ _ _ _ _ from ?_)
  refine wp_seq ?_
  refine wp_region_L (W0 := w) Kl1 (hW2) ?_
  refine wpL_new (fun g => .slice (some ⟨g, 0, none⟩) 0 0) (obi := .cells #[] 26 (0, 0)) rfl rfl (fun _ => by kernel_rfl) (fun _ => by simp only [List.setIfInBounds_toArray, List.set_cons_succ, List.set_cons_zero] <;> rfl) fun g2 Bg2 Fg2 => ?_
  obtain dj3_0 : Dk g2 Kl1 := by simpa only [dj_app_l, dj_app_r, dj_cons_l, dj_cons_r, dj_nil_l, dj_nil_r, dk_app, dk_cons, dk_nil, and_true, true_and, and_assoc] using (show Dk g2 Kl1 from Fg2)
  refine lm (v := v1) rfl rfl ?_
  obtain ⟨p4, c4, rfl, hc4, HB4⟩ := own_bs O1
  refine wpL_g (AppO w 26 9 Kl1 (0 + ((loadedX l0).length)) ((bcs []) ++ (bcs (loadedX l0)))) rfl rfl (app_any el_bx (m := ((loadedX l0).length)) (news := (bcs (loadedX l0))) rfl (by kernel_rfl) (by kernel_rfl) (src_bs (c := c4) Tryd.underlying22 (HB4.mono (fun p hp => by simp only [List.mem_cons, List.mem_append, List.nil_append, List.not_mem_nil, or_assoc, or_false, false_or, hp, true_or, or_true])) rfl) (own_bnone Bg2) (fun p hp => by cases List.mem_singleton.1 hp; exact (.head _)) (fun p hp => ⟨by simp only [List.mem_cons, List.mem_append, List.nil_append, List.not_mem_nil, or_assoc, or_false, false_or] at hp ⊢ <;> grind, (show Dj Kl1 [(g2, .cells #[] 26 (0, 0))] from (by (try simp only [dj_app_l, dj_app_r, dj_cons_l, dj_cons_r, dj_nil_l, dj_nil_r, dk_app, dk_cons, dk_nil, and_true, true_and, and_assoc]); repeat' (first | trivial | assumption | exact Dj.symm (by assumption) | exact Ne.symm (by assumption) | apply And.intro))) p hp⟩) (by omega) (by omega)) (fun _ => by simp only [List.setIfInBounds_toArray, List.set_cons_succ, List.set_cons_zero] <;> rfl) ?_
  rintro v5 K9 ⟨Kl5, O5, N5, rfl⟩
  replace O5 : OwnL w 26 9 v5 ((loadedX l0).length) (bcs (loadedX l0)) Kl5 := by rw [Nat.zero_add] at O5; exact O5
  obtain dj6_0 : Dj Kl1 Kl5 := by simpa only [dj_app_l, dj_app_r, dj_cons_l, dj_cons_r, dj_nil_l, dj_nil_r, dk_app, dk_cons, dk_nil, and_true, true_and, and_assoc] using (show Dj Kl1 Kl5 from N5)
  refine lm (v := v5) rfl rfl ?_
  refine wpL_done (fun W3 hW3 => ?_)
  refine (show Code.wp _ _ _ _ _ from ?_)
  refine wp_seq ?_
  refine wp_seq ?_
  refine wp_region_L (W0 := w) (Kl1 ++ Kl5) (hW3) ?_
  refine lm (v := .slice p1 l1.length c1) rfl rfl ?_
  refine lm (v := .slice p1 l1.length c1) rfl rfl ?_
  refine lp (v := .int .i64 ((l1.length : Nat) : Int)) rfl rfl (run_lenL (p := p1) (cap := c1) (n := l1.length) rfl Tryd.underlying51 (by kernel_rfl)) ?_
  obtain ⟨m7, hm7, hx7, hy7, hz7⟩ := min_nat l1.length 60
  refine lp (v := .int .i64 ((m7 : Nat) : Int)) rfl rfl (run_min rfl (by kernel_rfl) (by kernel_rfl) hm7) ?_
  refine lp (v := .slice p1 m7 c1) rfl rfl (run_slt (p := p1) (n := l1.length) (c := c1) (j := m7) (kd := .i64) (sz := 1) rfl Tryd.underlying51 (by kernel_rfl) (by kernel_rfl) (by kernel_rfl) (by omega)) ?_
  refine lp (v := .int .i64 ((m7 : Nat) : Int)) rfl rfl (run_lenL (p := p1) (cap := c1) (n := m7) rfl Tryd.underlying51 (by kernel_rfl)) ?_
  refine lm (v := .int .i64 0) rfl rfl ?_
  refine wpL_done (fun W4 hW4 => ?_)
  refine (show Code.wp _ _ _ _ _ from ?_)
  refine wp_block ?_
  go_loopw [27] (fun u27 wr => ∃ (k : Nat) (xl : List Bx) (Ko : List (Nat × Obj)), (k ≤ m7) ∧ (xl.Perm (loadedX l0)) ∧ (OwnL w 26 9 v5 xl.length (bcs xl) Ko) ∧ (Dj Kl1 Ko) ∧ u27 = .int .i64 ((k : Nat) : Int) ∧ KS w (Kl1 ++ Ko) wr) (fun u27 _ => m7 - (intOf u27).toNat)
  case atStart => exact ⟨0, (loadedX l0), Kl5, (Nat.zero_le _), (List.Perm.refl _), O5, (show Dj Kl1 Kl5 from (by (try simp only [dj_app_l, dj_app_r, dj_cons_l, dj_cons_r, dj_nil_l, dj_nil_r, dk_app, dk_cons, dk_nil, and_true, true_and, and_assoc]); repeat' (first | trivial | assumption | exact Dj.symm (by assumption) | exact Ne.symm (by assumption) | apply And.intro))), rfl, (hW4.sub (fun p hp => by first | exact hp | (simp only [List.mem_cons, List.mem_append, List.nil_append, List.not_mem_nil, or_assoc, or_false, false_or] at hp ⊢ <;> grind)))⟩
  case round =>
    obtain ⟨k, xl, Ko, hk, hpm, hO, dh8_0, rfl, hL5⟩ := hrel
    have hpl := hpm.length_eq
    refine wp_seq ?_
    refine wp_region_L (W0 := w) (Kl1 ++ Ko) (hL5) ?_
    refine lp (v := .bool (decide (k < m7))) rfl rfl (run_bin rfl (vx := (.int .i64 ((k : Nat) : Int))) (vy := (.int .i64 ((m7 : Nat) : Int))) (by kernel_rfl) (by kernel_rfl) fun w => bn_lss rfl w) ?_
    refine wpL_done (fun W6 hW6 => ?_)
    refine (show Code.wp _ _ _ _ _ from ?_)
    refine wp_seq ?_
    cases hd1 : (decide (k < m7)) with
    | false =>
      have h1 : ¬ (k < m7) := of_decide_eq_false hd1
      clear hd1
      refine wp_cond_false rfl ?_
      refine wp_exit ?_
      refine (show Code.wp _ _ _ _ _ from ?_)
      refine wp_seq ?_
      have hlo := order_len xl
      have heq := order_perm_eq hpm (loaded_did l0)
      refine wp_region_L (W0 := w) (Kl1 ++ Ko) (hW6) ?_
      refine lm (v := v5) rfl rfl ?_
      obtain ⟨p9, c9, rfl, hc9, HB9⟩ := own_bs hO
      refine wpL_c (f := 27) (args := #[.slice p9 xl.length c9]) (fun v K9 => ∃ Kl, OwnL w 26 9 v xl.length (bcs (orderX xl)) Kl ∧ (∀ p ∈ ((Kl1 ++ Ko) : List (Nat × Obj)), ∀ q ∈ Kl, q.1 ≠ p.1) ∧ K9 = (Kl1 ++ Ko) ++ Kl) rfl (by kernel_rfl) (fun _ => (by kernel_rfl)) (fun W hW => calls_out hW (Order_any xl p9 c9 (by first | omega | (simp only [List.length_take, List.length_set]; omega)) W (HB9 W (hW.sub (fun p hp => by simp only [List.mem_cons, List.mem_append, List.nil_append, List.not_mem_nil, or_assoc, or_false, false_or, hp, true_or, or_true]))))) (fun _ => by simp only [List.setIfInBounds_toArray, List.set_cons_succ, List.set_cons_zero] <;> rfl) ?_
      rintro v10 K9 ⟨Kl10, O10, N10, rfl⟩
      obtain ⟨dj11_0, dj11_1⟩ : Dj Kl1 Kl10 ∧ Dj Ko Kl10 := by simpa only [dj_app_l, dj_app_r, dj_cons_l, dj_cons_r, dj_nil_l, dj_nil_r, dk_app, dk_cons, dk_nil, and_true, true_and, and_assoc] using (show Dj (Kl1 ++ Ko) Kl10 from N10)
      refine lm (v := v10) rfl rfl ?_
      refine wpL_done (fun W7 hW7 => ?_)
      refine (show Code.wp _ _ _ _ _ from ?_)
      refine wp_seq ?_
      refine wp_seq ?_
      refine wp_region_L (W0 := w) ((Kl1 ++ Ko) ++ Kl10) (hW7) ?_
      refine lm (v := v10) rfl rfl ?_
      refine lm (v := .slice p4 ((loadedX l0).length) c4) rfl rfl ?_
      refine wpL_c (f := 27) (args := #[.slice p4 ((loadedX l0).length) c4]) (fun v K9 => ∃ Kl, OwnL w 26 9 v ((loadedX l0).length) (bcs (orderX (loadedX l0))) Kl ∧ (∀ p ∈ (((Kl1 ++ Ko) ++ Kl10) : List (Nat × Obj)), ∀ q ∈ Kl, q.1 ≠ p.1) ∧ K9 = ((Kl1 ++ Ko) ++ Kl10) ++ Kl) rfl (by kernel_rfl) (fun _ => (by kernel_rfl)) (fun W hW => calls_out hW (Order_any (loadedX l0) p4 c4 (by first | omega | (simp only [List.length_take, List.length_set]; omega)) W (HB4 W (hW.sub (fun p hp => by simp only [List.mem_cons, List.mem_append, List.nil_append, List.not_mem_nil, or_assoc, or_false, false_or, hp, true_or, or_true]))))) (fun _ => by simp only [List.setIfInBounds_toArray, List.set_cons_succ, List.set_cons_zero] <;> rfl) ?_
      rintro v12 K9 ⟨Kl12, O12, N12, rfl⟩
      obtain ⟨dj13_0, dj13_1, dj13_2⟩ : Dj Kl1 Kl12 ∧ Dj Ko Kl12 ∧ Dj Kl10 Kl12 := by simpa only [dj_app_l, dj_app_r, dj_cons_l, dj_cons_r, dj_nil_l, dj_nil_r, dk_app, dk_cons, dk_nil, and_true, true_and, and_assoc] using (show Dj ((Kl1 ++ Ko) ++ Kl10) Kl12 from N12)
      obtain ⟨p14, c14, rfl, hc14, HB14⟩ := own_bs O10
      obtain ⟨p15, c15, rfl, hc15, HB15⟩ := own_bs O12
      refine lv (v := .bool true) rfl rfl (yb_call (f := 28) (args := #[.slice p14 xl.length c14, .slice p15 ((loadedX l0).length) c15]) (fun _ => by kernel_rfl) fun W hW => same_is (orderX xl) (orderX (loadedX l0)) p14 p15 c14 c15 (nA := xl.length) (nB := ((loadedX l0).length)) (by first | rfl | omega | (simp only [order_len]; done) | (simp only [order_len]; omega)) (by first | rfl | omega | (simp only [order_len]; done) | (simp only [order_len]; omega)) (by first | omega | (simp only [order_len]; omega)) W (HB14 W (hW.sub (fun p hp => by simp only [List.mem_cons, List.mem_append, List.nil_append, List.not_mem_nil, or_assoc, or_false, false_or, hp, true_or, or_true]))) (HB15 W (hW.sub (fun p hp => by simp only [List.mem_cons, List.mem_append, List.nil_append, List.not_mem_nil, or_assoc, or_false, false_or, hp, true_or, or_true]))) heq) ?_
      refine lm (v := .bool false) rfl rfl ?_
      refine lm (v := .bool false) rfl rfl ?_
      refine lm (v := .slice p14 xl.length c14) rfl rfl ?_
      have hfl16 : ((orderX xl) : List Bx).length = xl.length := by first | (simp only [List.length_set]; done) | (simp only [List.length_set, List.length_take]; omega) | omega
      refine wpL_c (f := 27) (args := #[.slice p14 xl.length c14]) (fun v K9 => ∃ Kl, OwnL w 26 9 v xl.length (bcs (orderX (orderX xl))) Kl ∧ (∀ p ∈ ((((Kl1 ++ Ko) ++ Kl10) ++ Kl12) : List (Nat × Obj)), ∀ q ∈ Kl, q.1 ≠ p.1) ∧ K9 = (((Kl1 ++ Ko) ++ Kl10) ++ Kl12) ++ Kl) rfl (by kernel_rfl) (fun _ => (by kernel_rfl)) (fun W hW => calls_out hW ((by have h := Order_any (orderX xl) p14 c14 (by first | omega | (simp only [List.length_take, List.length_set]; omega)) W (HB14 W (hW.sub (fun p hp => by simp only [List.mem_cons, List.mem_append, List.nil_append, List.not_mem_nil, or_assoc, or_false, false_or, hp, true_or, or_true]))); rw [hfl16] at h; exact h))) (fun _ => by simp only [List.setIfInBounds_toArray, List.set_cons_succ, List.set_cons_zero] <;> rfl) ?_
      rintro v17 K9 ⟨Kl17, O17, N17, rfl⟩
      obtain ⟨dj18_0, dj18_1, dj18_2, dj18_3⟩ : Dj Kl1 Kl17 ∧ Dj Ko Kl17 ∧ Dj Kl10 Kl17 ∧ Dj Kl12 Kl17 := by simpa only [dj_app_l, dj_app_r, dj_cons_l, dj_cons_r, dj_nil_l, dj_nil_r, dk_app, dk_cons, dk_nil, and_true, true_and, and_assoc] using (show Dj (((Kl1 ++ Ko) ++ Kl10) ++ Kl12) Kl17 from N17)
      refine lm (v := .slice p14 xl.length c14) rfl rfl ?_
      obtain ⟨p19, c19, rfl, hc19, HB19⟩ := own_bs O17
      refine lv (v := .bool true) rfl rfl (yb_call (f := 28) (args := #[.slice p19 xl.length c19, .slice p14 xl.length c14]) (fun _ => by kernel_rfl) fun W hW => same_is (orderX (orderX xl)) (orderX xl) p19 p14 c19 c14 (nA := xl.length) (nB := xl.length) (by first | rfl | omega | (simp only [order_len]; done) | (simp only [order_len]; omega)) (by first | rfl | omega | (simp only [order_len]; done) | (simp only [order_len]; omega)) (by first | omega | (simp only [order_len]; omega)) W (HB19 W (hW.sub (fun p hp => by simp only [List.mem_cons, List.mem_append, List.nil_append, List.not_mem_nil, or_assoc, or_false, false_or, hp, true_or, or_true]))) (HB14 W (hW.sub (fun p hp => by simp only [List.mem_cons, List.mem_append, List.nil_append, List.not_mem_nil, or_assoc, or_false, false_or, hp, true_or, or_true]))) (order_again xl)) ?_
      refine lm (v := .bool false) rfl rfl ?_
      refine lm (v := .bool false) rfl rfl ?_
      refine lm (v := .bool false) rfl rfl ?_
      refine lm (v := .slice p14 xl.length c14) rfl rfl ?_
      refine lp (v := .int .i64 ((xl.length : Nat) : Int)) rfl rfl (run_lenL (p := p14) (cap := c14) (n := xl.length) rfl Tryd.underlying22 (by kernel_rfl)) ?_
      refine lm (v := .slice p4 ((loadedX l0).length) c4) rfl rfl ?_
      refine lp (v := .int .i64 ((((loadedX l0).length) : Nat) : Int)) rfl rfl (run_lenL (p := p4) (cap := c4) (n := ((loadedX l0).length)) rfl Tryd.underlying22 (by kernel_rfl)) ?_
      refine lp (v := .bool false) rfl rfl (run_bin rfl (vx := (.int .i64 ((xl.length : Nat) : Int))) (vy := (.int .i64 ((((loadedX l0).length) : Nat) : Int))) (by kernel_rfl) (by kernel_rfl) fun w => bn_neq (decide_eq_true hpl) w) ?_
      refine lm (v := .bool false) rfl rfl ?_
      refine wpL_done (fun W8 hW8 => ?_)
      refine (show Code.wp _ _ _ _ _ from ?_)
      refine wp_cond_false rfl ?_
      refine wp_skip ?_
      refine (show Code.wp _ _ _ _ _ from ?_)
      refine wp_seq ?_
      refine wp_region_L (W0 := w) ((((Kl1 ++ Ko) ++ Kl10) ++ Kl12) ++ Kl17) (hW8) ?_
      refine lm (v := .slice p4 ((loadedX l0).length) c4) rfl rfl ?_
      refine lp (v := .int .i64 ((((loadedX l0).length) : Nat) : Int)) rfl rfl (run_lenL (p := p4) (cap := c4) (n := ((loadedX l0).length)) rfl Tryd.underlying22 (by kernel_rfl)) ?_
      refine lp (v := .int .i64 (((((loadedX l0).length) + 1) : Nat) : Int)) rfl rfl (run_bin rfl (vx := (.int .i64 ((((loadedX l0).length) : Nat) : Int))) (vy := (.int .i64 ((1 : Nat) : Int))) (by kernel_rfl) (by kernel_rfl) fun w => bn_add (z := (((loadedX l0).length) + 1)) rfl (wr_i64 (by omega)) w) ?_
      refine wpL_new (fun g => .slice (some ⟨g, 0, none⟩) (((loadedX l0).length) + 1) (((loadedX l0).length) + 1)) (obi := .cells (nums (List.replicate (((loadedX l0).length) + 1) 0)).toArray 3 (0, 0)) rfl rfl (run_mk (b := 8) rfl Tryd.underlying29 (by kernel_rfl) (by decide) (by kernel_rfl) (by kernel_rfl) (by omega)) (fun _ => by simp only [List.setIfInBounds_toArray, List.set_cons_succ, List.set_cons_zero] <;> rfl) fun g20 Bg20 Fg20 => ?_
      obtain ⟨dj21_0, dj21_1, dj21_2, dj21_3, dj21_4⟩ : Dk g20 Kl1 ∧ Dk g20 Ko ∧ Dk g20 Kl10 ∧ Dk g20 Kl12 ∧ Dk g20 Kl17 := by simpa only [dj_app_l, dj_app_r, dj_cons_l, dj_cons_r, dj_nil_l, dj_nil_r, dk_app, dk_cons, dk_nil, and_true, true_and, and_assoc] using (show Dk g20 ((((Kl1 ++ Ko) ++ Kl10) ++ Kl12) ++ Kl17) from Fg20)
      refine lm (v := .slice (some ⟨g20, 0, none⟩) (((loadedX l0).length) + 1) (((loadedX l0).length) + 1)) rfl rfl ?_
      refine wpL_done (fun W9 hW9 => ?_)
      refine (show Code.wp _ _ _ _ _ from ?_)
      refine wp_seq ?_
      refine wp_seq ?_
      refine wp_region_L (W0 := w) ((g20, .cells (nums (List.replicate (((loadedX l0).length) + 1) 0)).toArray 3 (0, 0)) :: ((((Kl1 ++ Ko) ++ Kl10) ++ Kl12) ++ Kl17)) (hW9) ?_
      refine lm (v := .slice p14 xl.length c14) rfl rfl ?_
      refine lp (v := .int .i64 ((xl.length : Nat) : Int)) rfl rfl (run_lenL (p := p14) (cap := c14) (n := xl.length) rfl Tryd.underlying22 (by kernel_rfl)) ?_
      refine lm (v := .int .i64 0) rfl rfl ?_
      refine wpL_done (fun W10 hW10 => ?_)
      refine (show Code.wp _ _ _ _ _ from ?_)
      refine wp_block ?_
      go_loopw [86] (fun u86 wr => ∃ (k : Nat) (sl : List Nat), (k ≤ xl.length) ∧ (Cnt (orderX xl) k sl) ∧ (sl.length = (loadedX l0).length + 1) ∧ u86 = .int .i64 ((k : Nat) : Int) ∧ KS w ((g20, .cells (nums sl).toArray 3 (0, 0)) :: ((((Kl1 ++ Ko) ++ Kl10) ++ Kl12) ++ Kl17)) wr) (fun u86 _ => xl.length - (intOf u86).toNat)
      case atStart => exact ⟨0, (List.replicate (((loadedX l0).length) + 1) 0), (Nat.zero_le _), (cnt_start _ _), List.length_replicate, rfl, (hW10.sub (fun p hp => by first | exact hp | (simp only [List.mem_cons, List.mem_append, List.nil_append, List.not_mem_nil, or_assoc, or_false, false_or] at hp ⊢ <;> grind)))⟩
      case round =>
        obtain ⟨k, sl, hk, hS, hsl, rfl, hL11⟩ := hrel
        refine wp_seq ?_
        refine wp_region_L (W0 := w) ((g20, .cells (nums sl).toArray 3 (0, 0)) :: ((((Kl1 ++ Ko) ++ Kl10) ++ Kl12) ++ Kl17)) (hL11) ?_
        refine lp (v := .bool (decide (k < xl.length))) rfl rfl (run_bin rfl (vx := (.int .i64 ((k : Nat) : Int))) (vy := (.int .i64 ((xl.length : Nat) : Int))) (by kernel_rfl) (by kernel_rfl) fun w => bn_lss rfl w) ?_
        refine wpL_done (fun W12 hW12 => ?_)
        refine (show Code.wp _ _ _ _ _ from ?_)
        refine wp_seq ?_
        cases hd2 : (decide (k < xl.length)) with
        | false =>
          have h2 : ¬ (k < xl.length) := of_decide_eq_false hd2
          clear hd2
          refine wp_cond_false rfl ?_
          refine wp_exit ?_
          refine (show Code.wp _ _ _ _ _ from ?_)
          refine wp_seq ?_
          refine wp_region_L (W0 := w) ((g20, .cells (nums sl).toArray 3 (0, 0)) :: ((((Kl1 ++ Ko) ++ Kl10) ++ Kl12) ++ Kl17)) (hW12) ?_
          refine lv (v := .bool true) rfl rfl (yb_call (f := 12) (args := #[]) (fun _ => by kernel_rfl) fun W hW => awake_any W (HE.out.keep hW.1)) ?_
          refine lm (v := .bool true) rfl rfl ?_
          refine wpL_done (fun W13 hW13 => ?_)
          refine (show Code.wp _ _ _ _ _ from ?_)
          refine wp_ret ?_
          try simp only [inBlock_ret, then_ret]
          refine bodyPost_ret (v := .bool true) ?_ rfl ?_
          · kernel_rfl
          · exact ⟨rfl, hW13.1⟩
        | true =>
          have h2 : k < xl.length := of_decide_eq_true hd2
          clear hd2
          refine wp_cond_true rfl ?_
          refine wp_skip ?_
          refine (show Code.wp _ _ _ _ _ from ?_)
          refine wp_seq ?_
          refine wp_block ?_
          refine wp_seq ?_
          refine wp_region_L (W0 := w) ((g20, .cells (nums sl).toArray 3 (0, 0)) :: ((((Kl1 ++ Ko) ++ Kl10) ++ Kl12) ++ Kl17)) (hW12) ?_
          refine lm (v := .int .i64 ((k : Nat) : Int)) rfl rfl ?_
          obtain ⟨b22, g22_, f22, hy22, hp22, hc22⟩ := (HB14).at (hW12.sub (fun p hp => by simp only [List.mem_cons, List.mem_append, List.nil_append, List.not_mem_nil, or_assoc, or_false, false_or, hp, true_or, or_true])) (k := k) (by first | omega | (simp only [List.length_drop, List.length_take, List.length_append]; omega))
          refine lp (v := .pointer (some ⟨g22_, f22 + k * 9, none⟩)) rfl rfl (run_idxQ (p := p14) (cap := c14) (n := xl.length) (j := .i64) (k := k) (sz := 9) rfl Tryd.underlying22 (by kernel_rfl) (by kernel_rfl) hp22 (by kernel_rfl) (by omega)) ?_
          refine lv (v := bxV b22) rfl rfl (yb_bs (off := f22 + k * 9) (b := b22) rfl (by kernel_rfl) (fun W hW jq vq hv => hc22 W (hW.sub (fun p hp => by simp only [List.mem_cons, List.mem_append, List.nil_append, List.not_mem_nil, or_assoc, or_false, false_or, hp, true_or, or_true])) jq vq hv) Tryd.underlying26 rfl (by kernel_rfl)) ?_
          refine wpL_new (fun g => .pointer (some ⟨g, 0, none⟩)) (obi := .cells (bxC bx0) 26 (0, 0)) rfl rfl (fun _ => by kernel_rfl) (fun _ => by simp only [List.setIfInBounds_toArray, List.set_cons_succ, List.set_cons_zero] <;> rfl) fun g23 Bg23 Fg23 => ?_
          obtain ⟨dj24_0, dj24_1, dj24_2, dj24_3, dj24_4, dj24_5⟩ : g20 ≠ g23 ∧ Dk g23 Kl1 ∧ Dk g23 Ko ∧ Dk g23 Kl10 ∧ Dk g23 Kl12 ∧ Dk g23 Kl17 := by simpa only [dj_app_l, dj_app_r, dj_cons_l, dj_cons_r, dj_nil_l, dj_nil_r, dk_app, dk_cons, dk_nil, and_true, true_and, and_assoc] using (show Dk g23 ((g20, .cells (nums sl).toArray 3 (0, 0)) :: ((((Kl1 ++ Ko) ++ Kl10) ++ Kl12) ++ Kl17)) from Fg23)
          refine lm (v := .int .i64 ((k : Nat) : Int)) rfl rfl ?_
          refine wpL_s ((g23, .cells (bxC b22) 26 (0, 0)) :: (g20, .cells (nums sl).toArray 3 (0, 0)) :: ((((Kl1 ++ Ko) ++ Kl10) ++ Kl12) ++ Kl17)) rfl rfl (st_bx (b := b22) rfl (by kernel_rfl) (by kernel_rfl) (.head _) rfl Bg23 (by kernel_rfl) (List.forall_mem_cons.2 ⟨.inl rfl, (List.forall_mem_cons.2 ⟨.inr ⟨(.tail _ (.head _)), (by first | assumption | exact Ne.symm (by assumption))⟩, (fun p hp => .inr ⟨(.tail _ (.tail _ hp)), ((show Dk g23 ((((Kl1 ++ Ko) ++ Kl10) ++ Kl12) ++ Kl17) from (by (try simp only [dj_app_l, dj_app_r, dj_cons_l, dj_cons_r, dj_nil_l, dj_nil_r, dk_app, dk_cons, dk_nil, and_true, true_and, and_assoc]); repeat' (first | trivial | assumption | exact Dj.symm (by assumption) | exact Ne.symm (by assumption) | apply And.intro))) _ hp)⟩)⟩)⟩)) ?_
          refine wpL_done (fun W14 hW14 => ?_)
          refine (show Code.wp _ _ _ _ _ from ?_)
          refine wp_seq ?_
          refine wp_seq ?_
          obtain ⟨ib, hib, hi1, hi2, hat⟩ := out_at hpm hy22
          refine wp_region_V (W0 := w) ((g23, .cells (bxC b22) 26 (0, 0)) :: (g20, .cells (nums sl).toArray 3 (0, 0)) :: ((((Kl1 ++ Ko) ++ Kl10) ++ Kl12) ++ Kl17)) (by kernel_rfl) (hW14) ?_
          refine vm (i := 0) (v := .pointer (some ⟨g23, 0, none⟩)) rfl rfl rfl ?_
          refine vv (i := 1) (v := .int .i64 ((ib : Nat) : Int)) rfl rfl rfl (yb_cell (off := 0) (v := .int .i64 ((ib : Nat) : Int)) rfl (by kernel_rfl) (.head _) Tryd.underlying3 rfl (by rw [← hib]; rfl)) ?_
          refine vp (i := 2) (v := .bool false) rfl rfl rfl (run_bin rfl (vx := (.int .i64 ((ib : Nat) : Int))) (vy := (.int .i64 ((1 : Nat) : Int))) (by kernel_rfl) (by kernel_rfl) fun w => bn_lss (decide_eq_false (by omega)) w) ?_
          refine vm (i := 3) (v := .bool false) rfl rfl rfl ?_
          refine vm (i := 4) (v := .pointer (some ⟨g23, 0, none⟩)) rfl rfl rfl ?_
          refine vv (i := 5) (v := .int .i64 ((ib : Nat) : Int)) rfl rfl rfl (yb_cell (off := 0) (v := .int .i64 ((ib : Nat) : Int)) rfl (by kernel_rfl) (.head _) Tryd.underlying3 rfl (by rw [← hib]; rfl)) ?_
          refine vm (i := 6) (v := .slice p4 ((loadedX l0).length) c4) rfl rfl rfl ?_
          refine vp (i := 7) (v := .int .i64 ((((loadedX l0).length) : Nat) : Int)) rfl rfl rfl (run_lenL (p := p4) (cap := c4) (n := ((loadedX l0).length)) rfl Tryd.underlying22 (by kernel_rfl)) ?_
          refine vp (i := 8) (v := .bool false) rfl rfl rfl (run_bin rfl (vx := (.int .i64 ((ib : Nat) : Int))) (vy := (.int .i64 ((((loadedX l0).length) : Nat) : Int))) (by kernel_rfl) (by kernel_rfl) fun w => bn_gtr (decide_eq_false (by omega)) w) ?_
          refine vm (i := 9) (v := .bool false) rfl rfl rfl ?_
          refine vm (i := 10) (v := .bool false) rfl rfl rfl ?_
          refine vv (i := 11) (v := bxV b22) rfl rfl rfl (yb_load (n := 9) (off := 0) rfl (by kernel_rfl) (.head _) Tryd.underlying26 rfl (by kernel_rfl) (Nat.le_refl 9) (by kernel_rfl)) ?_
          refine vm (i := 12) (v := .slice p4 ((loadedX l0).length) c4) rfl rfl rfl ?_
          refine vm (i := 13) (v := .pointer (some ⟨g23, 0, none⟩)) rfl rfl rfl ?_
          refine vv (i := 14) (v := .int .i64 ((ib : Nat) : Int)) rfl rfl rfl (yb_cell (off := 0) (v := .int .i64 ((ib : Nat) : Int)) rfl (by kernel_rfl) (.head _) Tryd.underlying3 rfl (by rw [← hib]; rfl)) ?_
          refine vp (i := 15) (v := .int .i64 (((ib - 1) : Nat) : Int)) rfl rfl rfl (run_bin rfl (vx := (.int .i64 ((ib : Nat) : Int))) (vy := (.int .i64 ((1 : Nat) : Int))) (by kernel_rfl) (by kernel_rfl) fun w => bn_sub (z := (ib - 1)) rfl (by omega) (wr_i64 (by omega)) w) ?_
          obtain ⟨b25, g25_, f25, hy25, hp25, hc25⟩ := (HB4).at (hW14.sub (fun p hp => by simp only [List.mem_cons, List.mem_append, List.nil_append, List.not_mem_nil, or_assoc, or_false, false_or, hp, true_or, or_true])) (k := (ib - 1)) (by first | omega | (simp only [List.length_drop, List.length_take, List.length_append]; omega))
          refine vp (i := 16) (v := .pointer (some ⟨g25_, f25 + (ib - 1) * 9, none⟩)) rfl rfl rfl (run_idxQ (p := p4) (cap := c4) (n := ((loadedX l0).length)) (j := .i64) (k := (ib - 1)) (sz := 9) rfl Tryd.underlying22 (by kernel_rfl) (by kernel_rfl) hp25 (by kernel_rfl) (by omega)) ?_
          refine vv (i := 17) (v := bxV b25) rfl rfl rfl (yb_bs (off := f25 + (ib - 1) * 9) (b := b25) rfl (by kernel_rfl) (fun W hW jq vq hv => hc25 W (hW.sub (fun p hp => by simp only [List.mem_cons, List.mem_append, List.nil_append, List.not_mem_nil, or_assoc, or_false, false_or, hp, true_or, or_true])) jq vq hv) Tryd.underlying26 rfl (by kernel_rfl)) ?_
          refine vp (i := 18) (v := .bool (!(decide (b22 = b25)))) rfl rfl rfl (run_bin rfl (vx := bxV b22) (vy := bxV b25) (by kernel_rfl) (by kernel_rfl) fun w => neq_bx rfl w) ?_
          refine vm (i := 19) (v := .bool (!(decide (b22 = b25)))) rfl rfl rfl ?_
          refine wpV_done (by kernel_rfl) (fun W15 hW15 => ?_) _
          refine (show Code.wp _ _ _ _ _ from ?_)
          cases hd3 : (decide (b22 = b25)) with
          | false =>
            have h3 : ¬ (b22 = b25) := of_decide_eq_false hd3
            clear hd3
            exact absurd (Option.some.inj (hat.symm.trans hy25)) h3
          | true =>
            have h3 : b22 = b25 := of_decide_eq_true hd3
            clear hd3
            refine wp_cond_false rfl ?_
            refine wp_skip ?_
            refine (show Code.wp _ _ _ _ _ from ?_)
            refine wp_seq ?_
            refine wp_seq ?_
            refine wp_region_L (W0 := w) ((g23, .cells (bxC b22) 26 (0, 0)) :: (g20, .cells (nums sl).toArray 3 (0, 0)) :: ((((Kl1 ++ Ko) ++ Kl10) ++ Kl12) ++ Kl17)) (hW15) ?_
            refine lm (v := .slice (some ⟨g20, 0, none⟩) (((loadedX l0).length) + 1) (((loadedX l0).length) + 1)) rfl rfl ?_
            refine lm (v := .pointer (some ⟨g23, 0, none⟩)) rfl rfl ?_
            refine lv (v := .int .i64 ((ib : Nat) : Int)) rfl rfl (yb_cell (off := 0) (v := .int .i64 ((ib : Nat) : Int)) rfl (by kernel_rfl) (.head _) Tryd.underlying3 rfl (by rw [← hib]; rfl)) ?_
            refine lp (v := .pointer (some ⟨g20, 0 + ib * 1, none⟩)) rfl rfl (run_idxL (j := .i64) (n := (((loadedX l0).length) + 1)) (cap := (((loadedX l0).length) + 1)) (b := g20) (off := 0) (k := ib) (sz := 1) rfl Tryd.underlying29 (by kernel_rfl) (by kernel_rfl) (by kernel_rfl) (by omega)) ?_
            obtain ⟨n26, hn26⟩ : ∃ nz : Nat, (sl : List Nat)[ib]? = some nz := ⟨_, List.getElem?_eq_getElem (by first | omega | (simp only [List.length_take, List.length_set]; omega))⟩
            have hz26 := cnt_zero hS hpm hy22 hib hn26
            refine lv (v := .int .i64 ((n26 : Nat) : Int)) rfl rfl (yb_cell (off := 0 + ib * 1) (v := .int .i64 ((n26 : Nat) : Int)) rfl (by kernel_rfl) (.tail _ (.head _)) Tryd.underlying3 rfl (by rw [Nat.zero_add, Nat.mul_one, List.getElem?_toArray]; exact nums_get hn26)) ?_
            refine lp (v := .int .i64 (((n26 + 1) : Nat) : Int)) rfl rfl (run_bin rfl (vx := (.int .i64 ((n26 : Nat) : Int))) (vy := (.int .i64 ((1 : Nat) : Int))) (by kernel_rfl) (by kernel_rfl) fun w => bn_add (z := (n26 + 1)) rfl (wr_i64 (by omega)) w) ?_
            refine lp (v := .pointer (some ⟨g20, 0 + ib * 1, none⟩)) rfl rfl (run_idxL (j := .i64) (n := (((loadedX l0).length) + 1)) (cap := (((loadedX l0).length) + 1)) (b := g20) (off := 0) (k := ib) (sz := 1) rfl Tryd.underlying29 (by kernel_rfl) (by kernel_rfl) (by kernel_rfl) (by omega)) ?_
            refine wpL_s ((g23, .cells (bxC b22) 26 (0, 0)) :: (g20, .cells (nums (sl.set ib (n26 + 1))).toArray 3 (0, 0)) :: ((((Kl1 ++ Ko) ++ Kl10) ++ Kl12) ++ Kl17)) rfl rfl (st_to (off := 0 + ib * 1) (nums_set sl ib (n26 + 1)) rfl (by kernel_rfl) (by kernel_rfl) (.tail _ (.head _)) Bg20 (by kernel_rfl) rfl rfl (by simp only [List.size_toArray, nums_len]; omega) (.inr rfl) (List.forall_mem_cons.2 ⟨.inr ⟨(.head _), (by first | assumption | exact Ne.symm (by assumption))⟩, (List.forall_mem_cons.2 ⟨.inl rfl, (fun p hp => .inr ⟨(.tail _ (.tail _ hp)), ((show Dk g20 ((((Kl1 ++ Ko) ++ Kl10) ++ Kl12) ++ Kl17) from (by (try simp only [dj_app_l, dj_app_r, dj_cons_l, dj_cons_r, dj_nil_l, dj_nil_r, dk_app, dk_cons, dk_nil, and_true, true_and, and_assoc]); repeat' (first | trivial | assumption | exact Dj.symm (by assumption) | exact Ne.symm (by assumption) | apply And.intro))) _ hp)⟩)⟩)⟩)) ?_
            refine wpL_done (fun W16 hW16 => ?_)
            refine (show Code.wp _ _ _ _ _ from ?_)
            refine wp_seq ?_
            refine wp_region_L (W0 := w) ((g23, .cells (bxC b22) 26 (0, 0)) :: (g20, .cells (nums (sl.set ib (n26 + 1))).toArray 3 (0, 0)) :: ((((Kl1 ++ Ko) ++ Kl10) ++ Kl12) ++ Kl17)) (hW16) ?_
            refine lm (v := .slice (some ⟨g20, 0, none⟩) (((loadedX l0).length) + 1) (((loadedX l0).length) + 1)) rfl rfl ?_
            refine lm (v := .pointer (some ⟨g23, 0, none⟩)) rfl rfl ?_
            refine lv (v := .int .i64 ((ib : Nat) : Int)) rfl rfl (yb_cell (off := 0) (v := .int .i64 ((ib : Nat) : Int)) rfl (by kernel_rfl) (.head _) Tryd.underlying3 rfl (by rw [← hib]; rfl)) ?_
            refine lp (v := .pointer (some ⟨g20, 0 + ib * 1, none⟩)) rfl rfl (run_idxL (j := .i64) (n := (((loadedX l0).length) + 1)) (cap := (((loadedX l0).length) + 1)) (b := g20) (off := 0) (k := ib) (sz := 1) rfl Tryd.underlying29 (by kernel_rfl) (by kernel_rfl) (by kernel_rfl) (by omega)) ?_
            refine lv (v := .int .i64 (((n26 + 1) : Nat) : Int)) rfl rfl (yb_cell (off := 0 + ib * 1) (v := .int .i64 (((n26 + 1) : Nat) : Int)) rfl (by kernel_rfl) (.tail _ (.head _)) Tryd.underlying3 rfl (by rw [Nat.zero_add, Nat.mul_one, List.getElem?_toArray]; exact nums_get (List.getElem?_set_self (by first | omega | (simp only [List.length_take, List.length_set]; omega))))) ?_
            refine lp (v := .bool false) rfl rfl (run_bin rfl (vx := (.int .i64 (((n26 + 1) : Nat) : Int))) (vy := (.int .i64 ((1 : Nat) : Int))) (by kernel_rfl) (by kernel_rfl) fun w => bn_gtr (decide_eq_false (by omega)) w) ?_
            refine wpL_done (fun W17 hW17 => ?_)
            refine (show Code.wp _ _ _ _ _ from ?_)
            refine wp_cond_false rfl ?_
            refine wp_skip ?_
            refine (show Code.wp _ _ _ _ _ from ?_)
            refine wp_seq ?_
            refine wp_seq ?_
            refine wp_region_L (W0 := w) ((g23, .cells (bxC b22) 26 (0, 0)) :: (g20, .cells (nums (sl.set ib (n26 + 1))).toArray 3 (0, 0)) :: ((((Kl1 ++ Ko) ++ Kl10) ++ Kl12) ++ Kl17)) (hW17) ?_
            refine lm (v := .int .i64 ((k : Nat) : Int)) rfl rfl ?_
            refine lp (v := .bool (decide (k = 0))) rfl rfl (run_bin rfl (vx := (.int .i64 ((k : Nat) : Int))) (vy := (.int .i64 ((0 : Nat) : Int))) (by kernel_rfl) (by kernel_rfl) fun w => bn_eql rfl w) ?_
            refine wpL_done (fun W18 hW18 => ?_)
            refine (show Code.wp _ _ _ _ _ from ?_)
            cases hd4 : (decide (k = 0)) with
            | false =>
              have h4 : ¬ (k = 0) := of_decide_eq_false hd4
              clear hd4
              refine wp_cond_false rfl ?_
              refine wp_skip ?_
              refine (show Code.wp _ _ _ _ _ from ?_)
              refine wp_seq ?_
              refine wp_region_L (W0 := w) ((g23, .cells (bxC b22) 26 (0, 0)) :: (g20, .cells (nums (sl.set ib (n26 + 1))).toArray 3 (0, 0)) :: ((((Kl1 ++ Ko) ++ Kl10) ++ Kl12) ++ Kl17)) (hW18) ?_
              refine lm (v := .slice p14 xl.length c14) rfl rfl ?_
              refine lm (v := .int .i64 ((k : Nat) : Int)) rfl rfl ?_
              refine lp (v := .int .i64 (((k - 1) : Nat) : Int)) rfl rfl (run_bin rfl (vx := (.int .i64 ((k : Nat) : Int))) (vy := (.int .i64 ((1 : Nat) : Int))) (by kernel_rfl) (by kernel_rfl) fun w => bn_sub (z := (k - 1)) rfl (by omega) (wr_i64 (by omega)) w) ?_
              obtain ⟨b27, g27_, f27, hy27, hp27, hc27⟩ := (HB14).at (hW18.sub (fun p hp => by simp only [List.mem_cons, List.mem_append, List.nil_append, List.not_mem_nil, or_assoc, or_false, false_or, hp, true_or, or_true])) (k := (k - 1)) (by first | omega | (simp only [List.length_drop, List.length_take, List.length_append]; omega))
              refine lp (v := .pointer (some ⟨g27_, f27 + (k - 1) * 9, none⟩)) rfl rfl (run_idxQ (p := p14) (cap := c14) (n := xl.length) (j := .i64) (k := (k - 1)) (sz := 9) rfl Tryd.underlying22 (by kernel_rfl) (by kernel_rfl) hp27 (by kernel_rfl) (by omega)) ?_
              refine lv (v := bxV b27) rfl rfl (yb_bs (off := f27 + (k - 1) * 9) (b := b27) rfl (by kernel_rfl) (fun W hW jq vq hv => hc27 W (hW.sub (fun p hp => by simp only [List.mem_cons, List.mem_append, List.nil_append, List.not_mem_nil, or_assoc, or_false, false_or, hp, true_or, or_true])) jq vq hv) Tryd.underlying26 rfl (by kernel_rfl)) ?_
              refine wpL_new (fun g => .pointer (some ⟨g, 0, none⟩)) (obi := .cells (bxC bx0) 26 (0, 0)) rfl rfl (fun _ => by kernel_rfl) (fun _ => by simp only [List.setIfInBounds_toArray, List.set_cons_succ, List.set_cons_zero] <;> rfl) fun g28 Bg28 Fg28 => ?_
              obtain ⟨dj29_0, dj29_1, dj29_2, dj29_3, dj29_4, dj29_5, dj29_6⟩ : g23 ≠ g28 ∧ g20 ≠ g28 ∧ Dk g28 Kl1 ∧ Dk g28 Ko ∧ Dk g28 Kl10 ∧ Dk g28 Kl12 ∧ Dk g28 Kl17 := by simpa only [dj_app_l, dj_app_r, dj_cons_l, dj_cons_r, dj_nil_l, dj_nil_r, dk_app, dk_cons, dk_nil, and_true, true_and, and_assoc] using (show Dk g28 ((g23, .cells (bxC b22) 26 (0, 0)) :: (g20, .cells (nums (sl.set ib (n26 + 1))).toArray 3 (0, 0)) :: ((((Kl1 ++ Ko) ++ Kl10) ++ Kl12) ++ Kl17)) from Fg28)
              refine wpL_s ((g28, .cells (bxC b27) 26 (0, 0)) :: (g23, .cells (bxC b22) 26 (0, 0)) :: (g20, .cells (nums (sl.set ib (n26 + 1))).toArray 3 (0, 0)) :: ((((Kl1 ++ Ko) ++ Kl10) ++ Kl12) ++ Kl17)) rfl rfl (st_bx (b := b27) rfl (by kernel_rfl) (by kernel_rfl) (.head _) rfl Bg28 (by kernel_rfl) (List.forall_mem_cons.2 ⟨.inl rfl, (List.forall_mem_cons.2 ⟨.inr ⟨(.tail _ (.head _)), (by first | assumption | exact Ne.symm (by assumption))⟩, (List.forall_mem_cons.2 ⟨.inr ⟨(.tail _ (.tail _ (.head _))), (by first | assumption | exact Ne.symm (by assumption))⟩, (fun p hp => .inr ⟨(.tail _ (.tail _ (.tail _ hp))), ((show Dk g28 ((((Kl1 ++ Ko) ++ Kl10) ++ Kl12) ++ Kl17) from (by (try simp only [dj_app_l, dj_app_r, dj_cons_l, dj_cons_r, dj_nil_l, dj_nil_r, dk_app, dk_cons, dk_nil, and_true, true_and, and_assoc]); repeat' (first | trivial | assumption | exact Dj.symm (by assumption) | exact Ne.symm (by assumption) | apply And.intro))) _ hp)⟩)⟩)⟩)⟩)) ?_
              refine wpL_done (fun W19 hW19 => ?_)
              refine (show Code.wp _ _ _ _ _ from ?_)
              refine wp_seq ?_
              have hnx := out_next hy27 hy22
              refine wp_region_L (W0 := w) ((g28, .cells (bxC b27) 26 (0, 0)) :: (g23, .cells (bxC b22) 26 (0, 0)) :: (g20, .cells (nums (sl.set ib (n26 + 1))).toArray 3 (0, 0)) :: ((((Kl1 ++ Ko) ++ Kl10) ++ Kl12) ++ Kl17)) (hW19) ?_
              refine lm (v := .pointer (some ⟨g28, 6, none⟩)) rfl rfl ?_
              refine lv (v := .int .i64 b27.dis) rfl rfl (yb_cell (off := 6) rfl (by kernel_rfl) (.head _) Tryd.underlying3 rfl (by kernel_rfl)) ?_
              refine lm (v := .pointer (some ⟨g23, 6, none⟩)) rfl rfl ?_
              refine lv (v := .int .i64 b22.dis) rfl rfl (yb_cell (off := 6) rfl (by kernel_rfl) (.tail _ (.head _)) Tryd.underlying3 rfl (by kernel_rfl)) ?_
              refine lp (v := .bool (decide (b27.dis < b22.dis))) rfl rfl (run_bin rfl (vx := (.int .i64 b27.dis)) (vy := (.int .i64 b22.dis)) (by kernel_rfl) (by kernel_rfl) fun w => bi_lss rfl w) ?_
              refine lm (v := .bool (decide (b27.dis < b22.dis))) rfl rfl ?_
              cases hd5 : (decide (b27.dis < b22.dis)) with
              | false =>
                have h5 : ¬ (b27.dis < b22.dis) := of_decide_eq_false hd5
                clear hd5
                refine lm (v := .pointer (some ⟨g28, 6, none⟩)) rfl rfl ?_
                refine lv (v := .int .i64 b27.dis) rfl rfl (yb_cell (off := 6) rfl (by kernel_rfl) (.head _) Tryd.underlying3 rfl (by kernel_rfl)) ?_
                refine lm (v := .pointer (some ⟨g23, 6, none⟩)) rfl rfl ?_
                refine lv (v := .int .i64 b22.dis) rfl rfl (yb_cell (off := 6) rfl (by kernel_rfl) (.tail _ (.head _)) Tryd.underlying3 rfl (by kernel_rfl)) ?_
                refine lp (v := .bool (decide (b27.dis = b22.dis))) rfl rfl (run_bin rfl (vx := (.int .i64 b27.dis)) (vy := (.int .i64 b22.dis)) (by kernel_rfl) (by kernel_rfl) fun w => bi_eql rfl w) ?_
                refine lm (v := .bool (decide (b27.dis = b22.dis))) rfl rfl ?_
                cases hd6 : (decide (b27.dis = b22.dis)) with
                | false =>
                  have h6 : ¬ (b27.dis = b22.dis) := of_decide_eq_false hd6
                  clear hd6
                  refine ln rfl ?_
                  refine ln rfl ?_
                  refine ln rfl ?_
                  refine ln rfl ?_
                  refine ln rfl ?_
                  refine ln rfl ?_
                  refine ln rfl ?_
                  refine ln rfl ?_
                  refine ln rfl ?_
                  refine ln rfl ?_
                  refine ln rfl ?_
                  refine ln rfl ?_
                  refine ln rfl ?_
                  refine ln rfl ?_
                  refine ln rfl ?_
                  refine ln rfl ?_
                  refine ln rfl ?_
                  refine ln rfl ?_
                  refine ln rfl ?_
                  refine lm (v := .bool false) rfl rfl ?_
                  refine lm (v := .bool false) rfl rfl ?_
                  refine wpL_done (fun W20 hW20 => ?_)
                  refine (show Code.wp _ _ _ _ _ from ?_)
                  refine wp_cond_false rfl ?_
                  refine wp_skip ?_
                  refine (show Code.wp _ _ _ _ _ from ?_)
                  refine wp_region_L (W0 := w) ((g28, .cells (bxC b27) 26 (0, 0)) :: (g23, .cells (bxC b22) 26 (0, 0)) :: (g20, .cells (nums (sl.set ib (n26 + 1))).toArray 3 (0, 0)) :: ((((Kl1 ++ Ko) ++ Kl10) ++ Kl12) ++ Kl17)) (hW20) ?_
                  refine lp (v := .int .i64 (((k + 1) : Nat) : Int)) rfl rfl (run_bin rfl (vx := (.int .i64 ((k : Nat) : Int))) (vy := (.int .i64 ((1 : Nat) : Int))) (by kernel_rfl) (by kernel_rfl) fun w => bn_add (z := (k + 1)) rfl (wr_i64 (by omega)) w) ?_
                  refine lm (v := .int .i64 (((k + 1) : Nat) : Int)) rfl rfl ?_
                  refine wpL_done (fun W21 hW21 => ?_)
                  go_roundw
                  case rel =>
                    repeat apply Exists.intro
                    exact ⟨⟨k + 1, (sl.set ib (n26 + 1)), (by omega), (cnt_step hS hy22 hib), (by simp only [List.length_set]; omega), rfl, (hW21.sub (fun p hp => by first | exact hp | (simp only [List.mem_cons, List.mem_append, List.nil_append, List.not_mem_nil, or_assoc, or_false, false_or] at hp ⊢ <;> grind)))⟩, rfl⟩
                  case measure => (show xl.length - (intOf (.int .i64 (((k + 1) : Nat) : Int))).toNat < xl.length - (intOf (.int .i64 ((k : Nat) : Int))).toNat); simp only [intOf]; omega
                | true =>
                  have h6 : b27.dis = b22.dis := of_decide_eq_true hd6
                  clear hd6
                  refine lm (v := .pointer (some ⟨g28, 4, none⟩)) rfl rfl ?_
                  refine lv (v := .int .i64 b27.kilos) rfl rfl (yb_cell (off := 4) rfl (by kernel_rfl) (.head _) Tryd.underlying3 rfl (by kernel_rfl)) ?_
                  refine lm (v := .pointer (some ⟨g23, 4, none⟩)) rfl rfl ?_
                  refine lv (v := .int .i64 b22.kilos) rfl rfl (yb_cell (off := 4) rfl (by kernel_rfl) (.tail _ (.head _)) Tryd.underlying3 rfl (by kernel_rfl)) ?_
                  refine lp (v := .bool (decide (b27.kilos < b22.kilos))) rfl rfl (run_bin rfl (vx := (.int .i64 b27.kilos)) (vy := (.int .i64 b22.kilos)) (by kernel_rfl) (by kernel_rfl) fun w => bi_lss rfl w) ?_
                  refine lm (v := .bool (decide (b27.kilos < b22.kilos))) rfl rfl ?_
                  cases hd7 : (decide (b27.kilos < b22.kilos)) with
                  | false =>
                    have h7 : ¬ (b27.kilos < b22.kilos) := of_decide_eq_false hd7
                    clear hd7
                    refine lm (v := .pointer (some ⟨g28, 4, none⟩)) rfl rfl ?_
                    refine lv (v := .int .i64 b27.kilos) rfl rfl (yb_cell (off := 4) rfl (by kernel_rfl) (.head _) Tryd.underlying3 rfl (by kernel_rfl)) ?_
                    refine lm (v := .pointer (some ⟨g23, 4, none⟩)) rfl rfl ?_
                    refine lv (v := .int .i64 b22.kilos) rfl rfl (yb_cell (off := 4) rfl (by kernel_rfl) (.tail _ (.head _)) Tryd.underlying3 rfl (by kernel_rfl)) ?_
                    refine lp (v := .bool (decide (b27.kilos = b22.kilos))) rfl rfl (run_bin rfl (vx := (.int .i64 b27.kilos)) (vy := (.int .i64 b22.kilos)) (by kernel_rfl) (by kernel_rfl) fun w => bi_eql rfl w) ?_
                    refine lm (v := .bool (decide (b27.kilos = b22.kilos))) rfl rfl ?_
                    cases hd8 : (decide (b27.kilos = b22.kilos)) with
                    | false =>
                      have h8 : ¬ (b27.kilos = b22.kilos) := of_decide_eq_false hd8
                      clear hd8
                      refine ln rfl ?_
                      refine ln rfl ?_
                      refine ln rfl ?_
                      refine ln rfl ?_
                      refine ln rfl ?_
                      refine lm (v := .bool false) rfl rfl ?_
                      refine lm (v := .bool false) rfl rfl ?_
                      refine lm (v := .bool false) rfl rfl ?_
                      refine lm (v := .bool false) rfl rfl ?_
                      refine wpL_done (fun W22 hW22 => ?_)
                      refine (show Code.wp _ _ _ _ _ from ?_)
                      refine wp_cond_false rfl ?_
                      refine wp_skip ?_
                      refine (show Code.wp _ _ _ _ _ from ?_)
                      refine wp_region_L (W0 := w) ((g28, .cells (bxC b27) 26 (0, 0)) :: (g23, .cells (bxC b22) 26 (0, 0)) :: (g20, .cells (nums (sl.set ib (n26 + 1))).toArray 3 (0, 0)) :: ((((Kl1 ++ Ko) ++ Kl10) ++ Kl12) ++ Kl17)) (hW22) ?_
                      refine lp (v := .int .i64 (((k + 1) : Nat) : Int)) rfl rfl (run_bin rfl (vx := (.int .i64 ((k : Nat) : Int))) (vy := (.int .i64 ((1 : Nat) : Int))) (by kernel_rfl) (by kernel_rfl) fun w => bn_add (z := (k + 1)) rfl (wr_i64 (by omega)) w) ?_
                      refine lm (v := .int .i64 (((k + 1) : Nat) : Int)) rfl rfl ?_
                      refine wpL_done (fun W23 hW23 => ?_)
                      go_roundw
                      case rel =>
                        repeat apply Exists.intro
                        exact ⟨⟨k + 1, (sl.set ib (n26 + 1)), (by omega), (cnt_step hS hy22 hib), (by simp only [List.length_set]; omega), rfl, (hW23.sub (fun p hp => by first | exact hp | (simp only [List.mem_cons, List.mem_append, List.nil_append, List.not_mem_nil, or_assoc, or_false, false_or] at hp ⊢ <;> grind)))⟩, rfl⟩
                      case measure => (show xl.length - (intOf (.int .i64 (((k + 1) : Nat) : Int))).toNat < xl.length - (intOf (.int .i64 ((k : Nat) : Int))).toNat); simp only [intOf]; omega
                    | true =>
                      have h8 : b27.kilos = b22.kilos := of_decide_eq_true hd8
                      clear hd8
                      refine lm (v := .pointer (some ⟨g28, 0, none⟩)) rfl rfl ?_
                      refine lv (v := .int .i64 b27.id) rfl rfl (yb_cell (off := 0) rfl (by kernel_rfl) (.head _) Tryd.underlying3 rfl (by kernel_rfl)) ?_
                      refine lm (v := .pointer (some ⟨g23, 0, none⟩)) rfl rfl ?_
                      refine lv (v := .int .i64 ((ib : Nat) : Int)) rfl rfl (yb_cell (off := 0) (v := .int .i64 ((ib : Nat) : Int)) rfl (by kernel_rfl) (.tail _ (.head _)) Tryd.underlying3 rfl (by rw [← hib]; rfl)) ?_
                      refine lp (v := .bool (decide (((ib : Nat) : Int) < b27.id))) rfl rfl (run_bin rfl (vx := (.int .i64 b27.id)) (vy := (.int .i64 ((ib : Nat) : Int))) (by kernel_rfl) (by kernel_rfl) fun w => bi_gtr rfl w) ?_
                      refine lm (v := .bool (decide (((ib : Nat) : Int) < b27.id))) rfl rfl ?_
                      refine lm (v := .bool (decide (((ib : Nat) : Int) < b27.id))) rfl rfl ?_
                      refine lm (v := .bool (decide (((ib : Nat) : Int) < b27.id))) rfl rfl ?_
                      refine lm (v := .bool (decide (((ib : Nat) : Int) < b27.id))) rfl rfl ?_
                      refine wpL_done (fun W24 hW24 => ?_)
                      refine (show Code.wp _ _ _ _ _ from ?_)
                      cases hd9 : (decide (((ib : Nat) : Int) < b27.id)) with
                      | false =>
                        have h9 : ¬ (((ib : Nat) : Int) < b27.id) := of_decide_eq_false hd9
                        clear hd9
                        refine wp_cond_false rfl ?_
                        refine wp_skip ?_
                        refine (show Code.wp _ _ _ _ _ from ?_)
                        refine wp_region_L (W0 := w) ((g28, .cells (bxC b27) 26 (0, 0)) :: (g23, .cells (bxC b22) 26 (0, 0)) :: (g20, .cells (nums (sl.set ib (n26 + 1))).toArray 3 (0, 0)) :: ((((Kl1 ++ Ko) ++ Kl10) ++ Kl12) ++ Kl17)) (hW24) ?_
                        refine lp (v := .int .i64 (((k + 1) : Nat) : Int)) rfl rfl (run_bin rfl (vx := (.int .i64 ((k : Nat) : Int))) (vy := (.int .i64 ((1 : Nat) : Int))) (by kernel_rfl) (by kernel_rfl) fun w => bn_add (z := (k + 1)) rfl (wr_i64 (by omega)) w) ?_
                        refine lm (v := .int .i64 (((k + 1) : Nat) : Int)) rfl rfl ?_
                        refine wpL_done (fun W25 hW25 => ?_)
                        go_roundw
                        case rel =>
                          repeat apply Exists.intro
                          exact ⟨⟨k + 1, (sl.set ib (n26 + 1)), (by omega), (cnt_step hS hy22 hib), (by simp only [List.length_set]; omega), rfl, (hW25.sub (fun p hp => by first | exact hp | (simp only [List.mem_cons, List.mem_append, List.nil_append, List.not_mem_nil, or_assoc, or_false, false_or] at hp ⊢ <;> grind)))⟩, rfl⟩
                        case measure => (show xl.length - (intOf (.int .i64 (((k + 1) : Nat) : Int))).toNat < xl.length - (intOf (.int .i64 ((k : Nat) : Int))).toNat); simp only [intOf]; omega
                      | true =>
                        have h9 : ((ib : Nat) : Int) < b27.id := of_decide_eq_true hd9
                        clear hd9
                        refine wp_cond_true rfl ?_
                        refine wp_seq ?_
                        refine wp_region_L (W0 := w) ((g28, .cells (bxC b27) 26 (0, 0)) :: (g23, .cells (bxC b22) 26 (0, 0)) :: (g20, .cells (nums (sl.set ib (n26 + 1))).toArray 3 (0, 0)) :: ((((Kl1 ++ Ko) ++ Kl10) ++ Kl12) ++ Kl17)) (hW24) ?_
                        refine lm (v := .bool false) rfl rfl ?_
                        refine wpL_done (fun W26 hW26 => ?_)
                        refine (show Code.wp _ _ _ _ _ from ?_)
                        refine wp_ret ?_
                        exfalso
                        omega
                  | true =>
                    have h7 : b27.kilos < b22.kilos := of_decide_eq_true hd7
                    clear hd7
                    refine ln rfl ?_
                    refine ln rfl ?_
                    refine ln rfl ?_
                    refine ln rfl ?_
                    refine ln rfl ?_
                    refine ln rfl ?_
                    refine ln rfl ?_
                    refine ln rfl ?_
                    refine ln rfl ?_
                    refine ln rfl ?_
                    refine ln rfl ?_
                    refine ln rfl ?_
                    refine lm (v := .bool true) rfl rfl ?_
                    refine lm (v := .bool true) rfl rfl ?_
                    refine lm (v := .bool true) rfl rfl ?_
                    refine wpL_done (fun W27 hW27 => ?_)
                    refine (show Code.wp _ _ _ _ _ from ?_)
                    refine wp_cond_true rfl ?_
                    refine wp_seq ?_
                    refine wp_region_L (W0 := w) ((g28, .cells (bxC b27) 26 (0, 0)) :: (g23, .cells (bxC b22) 26 (0, 0)) :: (g20, .cells (nums (sl.set ib (n26 + 1))).toArray 3 (0, 0)) :: ((((Kl1 ++ Ko) ++ Kl10) ++ Kl12) ++ Kl17)) (hW27) ?_
                    refine lm (v := .bool false) rfl rfl ?_
                    refine wpL_done (fun W28 hW28 => ?_)
                    refine (show Code.wp _ _ _ _ _ from ?_)
                    refine wp_ret ?_
                    exfalso
                    omega
              | true =>
                have h5 : b27.dis < b22.dis := of_decide_eq_true hd5
                clear hd5
                refine ln rfl ?_
                refine ln rfl ?_
                refine ln rfl ?_
                refine ln rfl ?_
                refine ln rfl ?_
                refine ln rfl ?_
                refine ln rfl ?_
                refine ln rfl ?_
                refine ln rfl ?_
                refine ln rfl ?_
                refine ln rfl ?_
                refine ln rfl ?_
                refine ln rfl ?_
                refine ln rfl ?_
                refine ln rfl ?_
                refine ln rfl ?_
                refine ln rfl ?_
                refine ln rfl ?_
                refine ln rfl ?_
                refine ln rfl ?_
                refine ln rfl ?_
                refine ln rfl ?_
                refine ln rfl ?_
                refine ln rfl ?_
                refine ln rfl ?_
                refine ln rfl ?_
                refine lm (v := .bool true) rfl rfl ?_
                refine wpL_done (fun W29 hW29 => ?_)
                refine (show Code.wp _ _ _ _ _ from ?_)
                refine wp_cond_true rfl ?_
                refine wp_seq ?_
                refine wp_region_L (W0 := w) ((g28, .cells (bxC b27) 26 (0, 0)) :: (g23, .cells (bxC b22) 26 (0, 0)) :: (g20, .cells (nums (sl.set ib (n26 + 1))).toArray 3 (0, 0)) :: ((((Kl1 ++ Ko) ++ Kl10) ++ Kl12) ++ Kl17)) (hW29) ?_
                refine lm (v := .bool false) rfl rfl ?_
                refine wpL_done (fun W30 hW30 => ?_)
                refine (show Code.wp _ _ _ _ _ from ?_)
                refine wp_ret ?_
                exfalso
                omega
            | true =>
              have h4 : k = 0 := of_decide_eq_true hd4
              clear hd4
              refine wp_cond_true rfl ?_
              refine wp_exit ?_
              refine (show Code.wp _ _ _ _ _ from ?_)
              refine wp_region_L (W0 := w) ((g23, .cells (bxC b22) 26 (0, 0)) :: (g20, .cells (nums (sl.set ib (n26 + 1))).toArray 3 (0, 0)) :: ((((Kl1 ++ Ko) ++ Kl10) ++ Kl12) ++ Kl17)) (hW18) ?_
              refine lp (v := .int .i64 (((k + 1) : Nat) : Int)) rfl rfl (run_bin rfl (vx := (.int .i64 ((k : Nat) : Int))) (vy := (.int .i64 ((1 : Nat) : Int))) (by kernel_rfl) (by kernel_rfl) fun w => bn_add (z := (k + 1)) rfl (wr_i64 (by omega)) w) ?_
              refine lm (v := .int .i64 (((k + 1) : Nat) : Int)) rfl rfl ?_
              refine wpL_done (fun W31 hW31 => ?_)
              go_roundw
              case rel =>
                repeat apply Exists.intro
                exact ⟨⟨k + 1, (sl.set ib (n26 + 1)), (by omega), (cnt_step hS hy22 hib), (by simp only [List.length_set]; omega), rfl, (hW31.sub (fun p hp => by first | exact hp | (simp only [List.mem_cons, List.mem_append, List.nil_append, List.not_mem_nil, or_assoc, or_false, false_or] at hp ⊢ <;> grind)))⟩, rfl⟩
              case measure => (show xl.length - (intOf (.int .i64 (((k + 1) : Nat) : Int))).toNat < xl.length - (intOf (.int .i64 ((k : Nat) : Int))).toNat); simp only [intOf]; omega
    | true =>
      have h1 : k < m7 := of_decide_eq_true hd1
      clear hd1
      refine wp_cond_true rfl ?_
      refine wp_skip ?_
      refine (show Code.wp _ _ _ _ _ from ?_)
      refine wp_seq ?_
      refine wp_block ?_
      refine wp_seq ?_
      refine wp_region_L (W0 := w) (Kl1 ++ Ko) (hW6) ?_
      refine lm (v := .int .i64 ((k : Nat) : Int)) rfl rfl ?_
      obtain ⟨x30, g30_, f30, hy30, hp30, lt30, hc30⟩ := rec_at u8C_len (by omega) (slv_pre8 m7 HB1.out) (show k < (l1.take m7).length by first | omega | (simp only [List.length_take]; omega))
      have hx30 := hok1 _ (List.mem_of_mem_take (List.mem_of_getElem? hy30))
      refine lp (v := .pointer (some ⟨g30_, f30 + k * 1, none⟩)) rfl rfl (run_idxQ (p := p1) (cap := c1) (n := m7) (j := .i64) (k := k) (sz := 1) rfl Tryd.underlying51 (by kernel_rfl) (by kernel_rfl) hp30 (by kernel_rfl) (by omega)) ?_
      refine lv (v := .int .u8 ((x30 : Nat) : Int)) rfl rfl (yb_old (off := f30 + k * 1) (v := .int .u8 ((x30 : Nat) : Int)) rfl (by kernel_rfl) (hc30 0 _ rfl) lt30 Tryd.underlying5 rfl) ?_
      refine lm (v := .int .i64 ((k : Nat) : Int)) rfl rfl ?_
      refine lm (v := .int .u8 ((x30 : Nat) : Int)) rfl rfl ?_
      refine wpL_done (fun W32 hW32 => ?_)
      refine (show Code.wp _ _ _ _ _ from ?_)
      refine wp_seq ?_
      refine wp_region_L (W0 := w) (Kl1 ++ Ko) (hW32) ?_
      refine lm (v := v5) rfl rfl ?_
      refine lp (v := .int .i64 ((xl.length : Nat) : Int)) rfl rfl (run_lenO (W0 := w) rfl Tryd.underlying22 (by kernel_rfl) hO) ?_
      refine lp (v := .bool (decide (0 < xl.length))) rfl rfl (run_bin rfl (vx := (.int .i64 ((xl.length : Nat) : Int))) (vy := (.int .i64 ((0 : Nat) : Int))) (by kernel_rfl) (by kernel_rfl) fun w => bn_gtr rfl w) ?_
      refine wpL_done (fun W33 hW33 => ?_)
      refine (show Code.wp _ _ _ _ _ from ?_)
      cases hd10 : (decide (0 < xl.length)) with
      | false =>
        have h10 : ¬ (0 < xl.length) := of_decide_eq_false hd10
        clear hd10
        refine wp_cond_false rfl ?_
        refine wp_skip ?_
        refine (show Code.wp _ _ _ _ _ from ?_)
        refine wp_region_L (W0 := w) (Kl1 ++ Ko) (hW33) ?_
        refine lp (v := .int .i64 (((k + 1) : Nat) : Int)) rfl rfl (run_bin rfl (vx := (.int .i64 ((k : Nat) : Int))) (vy := (.int .i64 ((1 : Nat) : Int))) (by kernel_rfl) (by kernel_rfl) fun w => bn_add (z := (k + 1)) rfl (wr_i64 (by omega)) w) ?_
        refine lm (v := .int .i64 (((k + 1) : Nat) : Int)) rfl rfl ?_
        refine wpL_done (fun W34 hW34 => ?_)
        go_roundw
        case rel =>
          repeat apply Exists.intro
          exact ⟨⟨k + 1, xl, Ko, (by omega), hpm, hO, (show Dj Kl1 Ko from (by (try simp only [dj_app_l, dj_app_r, dj_cons_l, dj_cons_r, dj_nil_l, dj_nil_r, dk_app, dk_cons, dk_nil, and_true, true_and, and_assoc]); repeat' (first | trivial | assumption | exact Dj.symm (by assumption) | exact Ne.symm (by assumption) | apply And.intro))), rfl, (hW34.sub (fun p hp => by first | exact hp | (simp only [List.mem_cons, List.mem_append, List.nil_append, List.not_mem_nil, or_assoc, or_false, false_or] at hp ⊢ <;> grind)))⟩, rfl⟩
        case measure => (show m7 - (intOf (.int .i64 (((k + 1) : Nat) : Int))).toNat < m7 - (intOf (.int .i64 ((k : Nat) : Int))).toNat); simp only [intOf]; omega
      | true =>
        have h10 : 0 < xl.length := of_decide_eq_true hd10
        clear hd10
        have hm1 := Nat.mod_lt k h10
        have hm2 := Nat.mod_lt x30 h10
        refine wp_cond_true rfl ?_
        refine wp_seq ?_
        obtain ⟨go31, co31, cu31, rq31, Bo31, Ro31, rk31⟩ := own_some hO h10
        subst rq31
        subst rk31
        have dk31_0 : Dk go31 Kl1 := by have h : Dj Kl1 [(go31, .cells cu31 26 (0, 0))] := (by first | assumption | exact Dj.symm (by assumption)); simpa only [dj_app_l, dj_app_r, dj_cons_l, dj_cons_r, dj_nil_l, dj_nil_r, dk_app, dk_cons, dk_nil, and_true, true_and, and_assoc] using h
        refine wp_region_V (W0 := w) ((go31, .cells cu31 26 (0, 0)) :: Kl1) (by kernel_rfl) ((hW33.sub (fun p hp => by simp only [List.mem_cons, List.mem_append, List.nil_append, List.not_mem_nil, or_assoc, or_false, false_or, List.cons_append, List.append_assoc] at hp ⊢ <;> grind))) ?_
        refine vm (i := 0) (v := .int .i64 ((k : Nat) : Int)) rfl rfl rfl ?_
        refine vm (i := 1) (v := .slice (some ⟨go31, 0, none⟩) xl.length co31) rfl rfl rfl ?_
        refine vp (i := 2) (v := .int .i64 ((xl.length : Nat) : Int)) rfl rfl rfl (run_lenL (p := (some ⟨go31, 0, none⟩)) (cap := co31) (n := xl.length) rfl Tryd.underlying22 (by kernel_rfl)) ?_
        refine vp (i := 3) (v := .int .i64 (((k % xl.length) : Nat) : Int)) rfl rfl rfl (run_bin rfl (vx := (.int .i64 ((k : Nat) : Int))) (vy := (.int .i64 ((xl.length : Nat) : Int))) (by kernel_rfl) (by kernel_rfl) fun w => bn_rem (z := (k % xl.length)) rfl (by omega) w) ?_
        refine vm (i := 4) (v := .int .u8 ((x30 : Nat) : Int)) rfl rfl rfl ?_
        refine vp (i := 5) (v := .int .i64 ((x30 : Nat) : Int)) rfl rfl rfl (run_conv rfl (vx := (.int .u8 ((x30 : Nat) : Int))) (by kernel_rfl) fun w => cv_int Tryd.underlying5 Tryd.underlying3 (wr_i64 (by omega)) w) ?_
        refine vm (i := 6) (v := .slice (some ⟨go31, 0, none⟩) xl.length co31) rfl rfl rfl ?_
        refine vp (i := 7) (v := .int .i64 ((xl.length : Nat) : Int)) rfl rfl rfl (run_lenL (p := (some ⟨go31, 0, none⟩)) (cap := co31) (n := xl.length) rfl Tryd.underlying22 (by kernel_rfl)) ?_
        refine vp (i := 8) (v := .int .i64 (((x30 % xl.length) : Nat) : Int)) rfl rfl rfl (run_bin rfl (vx := (.int .i64 ((x30 : Nat) : Int))) (vy := (.int .i64 ((xl.length : Nat) : Int))) (by kernel_rfl) (by kernel_rfl) fun w => bn_rem (z := (x30 % xl.length)) rfl (by omega) w) ?_
        refine vm (i := 9) (v := .int .i64 (((k % xl.length) : Nat) : Int)) rfl rfl rfl ?_
        refine vm (i := 10) (v := .int .i64 (((x30 % xl.length) : Nat) : Int)) rfl rfl rfl ?_
        refine wpV_done (by kernel_rfl) (fun W35 hW35 => ?_) _
        refine (show Code.wp _ _ _ _ _ from ?_)
        refine wp_region_V (W0 := w) ((go31, .cells cu31 26 (0, 0)) :: Kl1) (by kernel_rfl) (hW35) ?_
        refine vm (i := 0) (v := .slice (some ⟨go31, 0, none⟩) xl.length co31) rfl rfl rfl ?_
        refine vm (i := 1) (v := .int .i64 (((k % xl.length) : Nat) : Int)) rfl rfl rfl ?_
        refine vm (i := 2) (v := .slice (some ⟨go31, 0, none⟩) xl.length co31) rfl rfl rfl ?_
        refine vm (i := 3) (v := .int .i64 (((x30 % xl.length) : Nat) : Int)) rfl rfl rfl ?_
        refine vm (i := 4) (v := .slice (some ⟨go31, 0, none⟩) xl.length co31) rfl rfl rfl ?_
        refine vm (i := 5) (v := .int .i64 (((x30 % xl.length) : Nat) : Int)) rfl rfl rfl ?_
        refine vp (i := 6) (v := .pointer (some ⟨go31, 0 + (x30 % xl.length) * 9, none⟩)) rfl rfl rfl (run_idxL (j := .i64) (n := xl.length) (cap := co31) (b := go31) (off := 0) (k := (x30 % xl.length)) (sz := 9) rfl Tryd.underlying22 (by kernel_rfl) (by kernel_rfl) (by kernel_rfl) (by omega)) ?_
        obtain ⟨b32, hy32⟩ : ∃ bz, (xl : List Bx)[(x30 % xl.length)]? = some bz := ⟨_, List.getElem?_eq_getElem (by first | omega | (simp only [List.length_set]; omega))⟩
        refine vv (i := 7) (v := bxV b32) rfl rfl rfl (yb_cells (off := 0 + (x30 % xl.length) * 9) (cur := cu31) (cs := (bxC b32).toList) rfl (by kernel_rfl) (.head _) (RowX.get (rowx_own Ro31) hy32) Tryd.underlying26 rfl (by kernel_rfl)) ?_
        refine vm (i := 8) (v := .slice (some ⟨go31, 0, none⟩) xl.length co31) rfl rfl rfl ?_
        refine vm (i := 9) (v := .int .i64 (((k % xl.length) : Nat) : Int)) rfl rfl rfl ?_
        refine vp (i := 10) (v := .pointer (some ⟨go31, 0 + (k % xl.length) * 9, none⟩)) rfl rfl rfl (run_idxL (j := .i64) (n := xl.length) (cap := co31) (b := go31) (off := 0) (k := (k % xl.length)) (sz := 9) rfl Tryd.underlying22 (by kernel_rfl) (by kernel_rfl) (by kernel_rfl) (by omega)) ?_
        obtain ⟨b33, hy33⟩ : ∃ bz, (xl : List Bx)[(k % xl.length)]? = some bz := ⟨_, List.getElem?_eq_getElem (by first | omega | (simp only [List.length_set]; omega))⟩
        refine vv (i := 11) (v := bxV b33) rfl rfl rfl (yb_cells (off := 0 + (k % xl.length) * 9) (cur := cu31) (cs := (bxC b33).toList) rfl (by kernel_rfl) (.head _) (RowX.get (rowx_own Ro31) hy33) Tryd.underlying26 rfl (by kernel_rfl)) ?_
        refine vp (i := 12) (v := .pointer (some ⟨go31, 0 + (k % xl.length) * 9, none⟩)) rfl rfl rfl (run_idxL (j := .i64) (n := xl.length) (cap := co31) (b := go31) (off := 0) (k := (k % xl.length)) (sz := 9) rfl Tryd.underlying22 (by kernel_rfl) (by kernel_rfl) (by kernel_rfl) (by omega)) ?_
        have R34 := RowX.put (b := b32) (rowx_own Ro31) (show (k % xl.length) < xl.length by first | omega | (simp only [List.length_set]; omega))
        have Q34 := put_size (b := b32) (rowx_own Ro31) (show (k % xl.length) < xl.length by first | omega | (simp only [List.length_set]; omega))
        refine wpV_s ((go31, .cells (putR cu31 (k % xl.length) b32) 26 (0, 0)) :: Kl1) (i := 13) rfl (by kernel_rfl) rfl rfl rfl (st_rec (k := (k % xl.length)) (b := b32) rfl (by kernel_rfl) (by kernel_rfl) (.head _) Bo31 (by kernel_rfl) (rowx_own Ro31) (by first | omega | (simp only [List.length_set]; omega)) (List.forall_mem_cons.2 ⟨.inl rfl, (fun p hp => .inr ⟨(.tail _ hp), ((show Dk go31 Kl1 from (by (try simp only [dj_app_l, dj_app_r, dj_cons_l, dj_cons_r, dj_nil_l, dj_nil_r, dk_app, dk_cons, dk_nil, and_true, true_and, and_assoc]); repeat' (first | trivial | assumption | exact Dj.symm (by assumption) | exact Ne.symm (by assumption) | apply And.intro))) _ hp)⟩)⟩)) ?_
        refine vp (i := 14) (v := .pointer (some ⟨go31, 0 + (x30 % xl.length) * 9, none⟩)) rfl rfl rfl (run_idxL (j := .i64) (n := xl.length) (cap := co31) (b := go31) (off := 0) (k := (x30 % xl.length)) (sz := 9) rfl Tryd.underlying22 (by kernel_rfl) (by kernel_rfl) (by kernel_rfl) (by omega)) ?_
        have R35 := RowX.put (b := b33) R34 (show (x30 % xl.length) < (xl.set (k % xl.length) b32).length by first | omega | (simp only [List.length_set]; omega))
        have Q35 := put_size (b := b33) R34 (show (x30 % xl.length) < (xl.set (k % xl.length) b32).length by first | omega | (simp only [List.length_set]; omega))
        refine wpV_s ((go31, .cells (putR (putR cu31 (k % xl.length) b32) (x30 % xl.length) b33) 26 (0, 0)) :: Kl1) (i := 15) rfl (by kernel_rfl) rfl rfl rfl (st_rec (k := (x30 % xl.length)) (b := b33) rfl (by kernel_rfl) (by kernel_rfl) (.head _) Bo31 (by kernel_rfl) R34 (by first | omega | (simp only [List.length_set]; omega)) (List.forall_mem_cons.2 ⟨.inl rfl, (fun p hp => .inr ⟨(.tail _ hp), ((show Dk go31 Kl1 from (by (try simp only [dj_app_l, dj_app_r, dj_cons_l, dj_cons_r, dj_nil_l, dj_nil_r, dk_app, dk_cons, dk_nil, and_true, true_and, and_assoc]); repeat' (first | trivial | assumption | exact Dj.symm (by assumption) | exact Ne.symm (by assumption) | apply And.intro))) _ hp)⟩)⟩)) ?_
        refine wpV_done (by kernel_rfl) (fun W36 hW36 => ?_) _
        refine (show Code.wp _ _ _ _ _ from ?_)
        refine wp_region_L (W0 := w) ((go31, .cells (putR (putR cu31 (k % xl.length) b32) (x30 % xl.length) b33) 26 (0, 0)) :: Kl1) (hW36) ?_
        refine lp (v := .int .i64 (((k + 1) : Nat) : Int)) rfl rfl (run_bin rfl (vx := (.int .i64 ((k : Nat) : Int))) (vy := (.int .i64 ((1 : Nat) : Int))) (by kernel_rfl) (by kernel_rfl) fun w => bn_add (z := (k + 1)) rfl (wr_i64 (by omega)) w) ?_
        refine lm (v := .int .i64 (((k + 1) : Nat) : Int)) rfl rfl ?_
        refine wpL_done (fun W37 hW37 => ?_)
        have hLn : ((xl.set (k % xl.length) b32).set (x30 % xl.length) b33).length = xl.length := by simp only [List.length_set]
        have hOn : OwnL w 26 9 (.slice (some ⟨go31, 0, none⟩) xl.length co31) ((xl.set (k % xl.length) b32).set (x30 % xl.length) b33).length (bcs ((xl.set (k % xl.length) b32).set (x30 % xl.length) b33)) [(go31, .cells (putR (putR cu31 (k % xl.length) b32) (x30 % xl.length) b33) 26 (0, 0))] := by rw [hLn]; exact .inr ⟨go31, co31, (putR (putR cu31 (k % xl.length) b32) (x30 % xl.length) b33), rfl, Bo31, own_rowx Ro31 (by omega) R35 (by simp only [List.length_set]), rfl⟩
        have hPn := (swap_perm hy33 hy32).trans hpm
        go_roundw
        case rel =>
          repeat apply Exists.intro
          exact ⟨⟨k + 1, ((xl.set (k % xl.length) b32).set (x30 % xl.length) b33), [(go31, .cells (putR (putR cu31 (k % xl.length) b32) (x30 % xl.length) b33) 26 (0, 0))], (by omega), hPn, hOn, (show Dj Kl1 [(go31, .cells (putR (putR cu31 (k % xl.length) b32) (x30 % xl.length) b33) 26 (0, 0))] from (by (try simp only [dj_app_l, dj_app_r, dj_cons_l, dj_cons_r, dj_nil_l, dj_nil_r, dk_app, dk_cons, dk_nil, and_true, true_and, and_assoc]); repeat' (first | trivial | assumption | exact Dj.symm (by assumption) | exact Ne.symm (by assumption) | apply And.intro))), rfl, (hW37.sub (fun p hp => by first | exact hp | (simp only [List.mem_cons, List.mem_append, List.nil_append, List.not_mem_nil, or_assoc, or_false, false_or] at hp ⊢ <;> grind)))⟩, rfl⟩
        case measure => (show m7 - (intOf (.int .i64 (((k + 1) : Nat) : Int))).toNat < m7 - (intOf (.int .i64 ((k : Nat) : Int))).toNat); simp only [intOf]; omega
end Go.Proofs.YtjbbeolapaaiaaaDoor
/- BoxOrder holds for every input: the program's own answer is true, wherever the listed variables are as the program's text lays them; each argument reads afterwards as it read before. -/
namespace Go.Proofs.YtjbbeolapaaiaaaDoor
open Go.ChangeShapes Go.WideShapes Go.ChangeAt Go.RowKit Tw
set_option maxRecDepth 100000 in
theorem boxOrder_lifted (os : Os) (started : os.Started) (H : Type) (enc : TypeId × Value → H) :
    ReturnsInHanded {} Tryd.checked os 8 .any (fun w args => (Rows.boxOrderSpec.pre enc Tryd.prog Tryd.f8 Rows.boxOrderRow.domain false w args ∧ laidMetH Tryd.prog laidN w) ∧ sizedMet enc Tryd.prog Tryd.f8 (OpenSpec.ofChange Rows.boxOrderSpec) false w args) (Rows.boxOrderSpec.post enc Tryd.prog Tryd.f8 false true false false) := by
  refine handed_and_sized (C := Tryd.checked) (X := fun w => laidMetH Tryd.prog laidN w) (fun _ _ hh h => h.of_heap hh) own started (by kernel_rfl) Tryd.func8
    (ChangeSpec.witness_shaped (enc := enc) (C := Tryd.checked) (os := os) (X := fun w _ => laidMetH Tryd.prog laidN w) false (World.doorLaid Tryd.prog 1000 os) #[.slice none 0 0, .slice none 0 0] 8 rfl (World.shaped_of_RefB (by kernel_rfl) (by kernel_rfl)) (by kernel_rfl) (by kernel_rfl) (by kernel_rfl) (door_met os _)) ?_
  intro W base args ds gs before hval0 hW hL hsh hsz
  have hval : ∀ (j : Nat) t v, Tryd.f8.params[j]? = some t → args[j]? = some v → Value.okWide Tryd.prog W .any base t v := hval0
  have hW2 := hW
  obtain ⟨p, q, hA0, hV, rfl, hfz, hnd⟩ := hW2
  have hA : DataW.TrodAll enc Tryd.prog W 0 (fun _ => true) true Tryd.f8.params.toList args.toList ds p := hA0
  rw [Tryd.params8] at hA hval
  obtain ⟨v0, vs0, d0, ds0, p0, q0, hargs, rfl, rfl, h0, r0⟩ := trodAll_cons hA
  obtain ⟨v1, vs1, d1, ds1, p1, q1, rfl, rfl, rfl, h1, r1⟩ := trodAll_cons r0
  obtain ⟨rfl, rfl, rfl⟩ := trodAll_nil r1
  obtain rfl : args = #[v0, v1] := by cases args; simp_all
  obtain ⟨rfl, rfl⟩ := trodVars_none hV
  have k0 := h0
  have lt0 : ∀ x ∈ p0, x.block < W.heap.size := by obtain ⟨m, hm⟩ := k0; exact DataW.trod_lt m _ _ _ hm
  obtain ⟨p0_, c0, l0, rfl, hb0, hok0, hl0, hc0⟩ := open_recs (sz := 6) Tryd.underlying44 opens_sk (by kernel_rfl) (by omega) (fun _ => rfl) (hval 0 44 v0 rfl rfl) h0
  have k1 := h1
  have lt1 : ∀ x ∈ p1, x.block < W.heap.size := by obtain ⟨m, hm⟩ := k1; exact DataW.trod_lt m _ _ _ hm
  obtain ⟨p1_, c1, l1, rfl, hb1, hok1, hl1, hc1⟩ := open_recs (sz := 1) Tryd.underlying51 opens_u8 (by kernel_rfl) (by omega) u8C_len (hval 1 51 v1 rfl rfl) h1
  clear hA0 hval0
  refine (BoxOrder_law W (env_of hL) l0 p0_ c0 hb0 hok0 hl0 hc0 l1 p1_ c1 hb1 hok1 hl1 hc1).mono fun e W' ⟨he, bel⟩ => ?_
  subst he
  exact ⟨_, rfl, _, _, _, [], _, [], hW, (trodAll_cons_mk (shut_bool Tryd.underlying4 _) trodAll_mk0), (trodAll_cons_mk (Below.trod laidOut (by kernel_rfl) (of_decide_eq_true (by kernel_rfl)) k0 bel lt0) (trodAll_cons_mk (Below.trod laidOut (by kernel_rfl) (of_decide_eq_true (by kernel_rfl)) k1 bel lt1) trodAll_mk0)), rfl, bel.frame _, fun h => by cases h⟩
theorem boxOrder_said : Rows.BoxOrderSaid :=
  OpenClaim.holds_of_wide 8 Tryd.f8 rfl rfl rfl rfl rfl rfl rfl ⟨rfl, rfl, rfl, rfl, rfl⟩ rfl rfl rfl rfl rfl (by kernel_rfl) Tryd.func8 (by kernel_rfl)
    (of_decide_eq_true (by kernel_rfl)) (by unfold Func.isWrapper; first | (rw [if_pos (by decide +kernel)]; kernel_rfl) | (rw [if_neg (by decide +kernel)]; exact ⟨rfl, rfl⟩))
    (fun os started H enc _ => boxOrder_lifted os started H enc)
theorem boxOrder_proved : Rows.BoxOrderCardSaid :=
  Claim7.holds_tied_plain_at .later [] [.data] true Rows.boxOrderCard.stood.harness Rows.boxOrderCard.stood.looks
    boxOrder_said (fun _ h => by cases h) (by kernel_rfl) (fun _ h => by cases h) boxOrder_row_tie rfl ⟨rfl, rfl⟩ (by kernel_rfl) rfl
    (fun f fn hf hfn => by
      obtain rfl : f = 8 := Option.some.inj ((show Tryd.prog.funcNamed "twistlock/twistlocklaw06.BoxOrder" = some 8 by kernel_rfl).symm.trans hf) |>.symm
      obtain rfl : fn = Tryd.f8 := (Option.some.inj (Tryd.func8.symm.trans hfn)).symm
      exact ⟨by kernel_rfl, fun j t ht => by
        rw [Tryd.params8] at ht
        have hm : t ∈ [44, 51] := by simpa using Array.mem_of_getElem? ht
        have hall : ([44, 51].all fun u => !Tryd.prog.wantsStandIn u) = true := by kernel_rfl
        exact (show Tryd.prog.wantsStandIn t = false by simpa using List.all_eq_true.1 hall t hm)⟩)
    (by kernel_rfl)
#print axioms boxOrder_proved
end Go.Proofs.YtjbbeolapaaiaaaDoor
