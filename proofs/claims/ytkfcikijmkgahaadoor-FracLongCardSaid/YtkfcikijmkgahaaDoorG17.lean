import Derived.Test.YtkfcikijmkgahaaDoorG16
/- Part of the proof: Su, Di. -/
set_option linter.unusedVariables false
set_option linter.unusedSimpArgs false
set_option linter.unusedSectionVars false
namespace Go.Proofs.YtkfcikijmkgahaaDoor
open Go.RowKit Tw
variable [ShLZ]
theorem size4 : (Tryd.prog.info? 4).map (·.size) = some 1 := by kernel_rfl
theorem frc_bit (b s : Bool) (n d : Nat) : frcC b n d = ((frcC s n d).toList.take 0 ++ (Value.bool b).cells.toList ++ (frcC s n d).toList.drop (0 + (Value.bool b).cells.toList.length)).toArray := by
  simp [Value.cells, frcC]
theorem wpList_stb {ops : Array Oper} {rest : List Oper} {o : Oper} {a : Act} {w : World} {Q : Exit → Act → World → Prop} (hgd : o.guard = none) {t : TypeId} {x y : Operand} {g : Nat} {b s : Bool} {n d : Nat} (ho : o.op = .store 4 x y)
    (hx : a.eval x = .pointer (some ⟨g, 0, none⟩)) (hv : a.eval y = .bool b) (hg : w.heap[g]? = some (.cells (frcC s n d) t (0, 0)))
    (h : wpList Tryd.prog ops Q rest (a.put o.dst undef) (w.setRow g (frcC b n d))) : wpList Tryd.prog ops Q (o :: rest) a w :=
  wpList_stm hgd ho hx hv hg (by rw [size4]; rfl) (by simp [Value.cells]) (by intro v hv; simp [Value.cells] at hv; subst hv; rfl) (frc_bit b s n d) h

set_option maxRecDepth 100000 in
set_option maxHeartbeats 2000000 in
theorem Sub_any (s1 s2 : Bool) (n1 d1 n2 d2 : Nat) (hn1 : n1 < R 8) (hd1 : d1 < R 8) (hn2 : n2 < R 8) (hd2 : d2 < R 8) (w : World) :
    Calls Tryd.prog 13 #[frc s1 n1 d1, frc s2 n2 d2] w fun e w' => e = .returned (if (rightB s1 n1 d1 && rightB s2 n2 d2) = true then addV s1 n1 d1 (!s2) n2 d2 else argV) ∧ Below w.heap.size w w' := by
  have HR1 := Lib.hid (fun W => right_any s1 n1 d1 hn1 hd1 W)
  have HR2 := Lib.hid (fun W => right_any s2 n2 d2 hn2 hd2 W)
  unfold Hid frc at HR1 HR2
  have HC : rightB s1 n1 d1 = true → rightB s2 n2 d2 = true → Hid (∀ W, Calls Tryd.prog 30 #[.agg (frcC s1 n1 d1), .agg (frcC (!s2) n2 d2)] W fun e w' => e = .returned (addV s1 n1 d1 (!s2) n2 d2) ∧ Below W.heap.size W w') := fun h1 h2 W =>
    add_any s1 (!s2) n1 d1 n2 d2 hn1 hd1 hn2 hd2 (right_den h1) (right_den h2) W
  obtain ⟨s', n', d', ee, hp⟩ : ∃ s' n' d' e, addV s1 n1 d1 (!s2) n2 d2 = .tuple #[.agg (frcC s' n' d'), .int .i64 e] := packV_shape _ _ _
  have HP := Lib.hid hp
  clear hp hn1 hd1 hn2 hd2
  unfold frc
  generalize addV s1 n1 d1 (!s2) n2 d2 = CV at *
  generalize rightB s1 n1 d1 = r1 at *
  generalize rightB s2 n2 d2 = r2 at *
  have HR1 := Lib.hid HR1
  have HR2 := Lib.hid HR2
  go_enter Tryd.func13, Tryd.ntmps13
  go_upto_region 1 with (fail)
  have hK := KS.three w (.cells (frcC s1 n1 d1) 26) (.cells (frcC s2 n2 d2) 26) (.cells (frcC false 0 0) 26)
  obtain ⟨W, hW⟩ : ∃ W, W = ((w.alloc (.cells (frcC s1 n1 d1) 26)).alloc (.cells (frcC s2 n2 d2) 26)).alloc (.cells (frcC false 0 0) 26) := ⟨_, rfl⟩
  rw [← hW] at hK
  rw [frc_zero] at hW
  rw [← hW]
  clear hW
  have HK := Lib.hid hK
  clear hK
  cases r1
  · have HV := Lib.hid (show (if (false && r2) = true then CV else argV) = argV from rfl)
    clear HC
    go_wp2_with (first
      | (refine wpList_ldf rfl rfl rfl (HK.out.2 _ (.head _)) Tryd.underlying26 rfl size27 ?_)
      | (refine wpList_guard rfl ?_; refine wpList_ldf rfl rfl rfl (HK1.out.2 _ (.tail _ (.head _))) Tryd.underlying26 rfl size27 ?_)
      | (go_at_call 24; (with_reducible refine (HR1.out _).mono ?_); rintro e w1 ⟨rfl, hb1⟩; have HK1 := Lib.hid (HK.out.below hb1); clear hb1)
      | (go_at_call 24; (with_reducible refine (HR2.out _).mono ?_); rintro e w2 ⟨rfl, hb1⟩; have HK2 := Lib.hid (HK1.out.below hb1); clear hb1)
      | (refine wpList_stf (neg := false) (n := 0) (d := 0) (neg' := false) (n' := 0) (d' := 0) rfl rfl rfl (by rw [frc_zero]; rfl) (HK1.out.2 _ (.tail _ (.tail _ (.head _)))) size27 ?_))
    exact bodyPost_ret (res_cell_tmp rfl rfl (setRow_heap _ _ _ _ _ _ (HK1.out.2 _ (.tail _ (.tail _ (.head _))))) Tryd.underlying26 rfl (by rw [size27, frcC_size])) rfl ⟨rfl, below_setRow HK1.out.1 (by omega) _⟩
  · cases r2
    · have HV := Lib.hid (show (if (true && false) = true then CV else argV) = argV from rfl)
      clear HC
      go_wp2_with (first
        | (refine wpList_ldf rfl rfl rfl (HK.out.2 _ (.head _)) Tryd.underlying26 rfl size27 ?_)
        | (refine wpList_guard rfl ?_; refine wpList_ldf rfl rfl rfl (HK1.out.2 _ (.tail _ (.head _))) Tryd.underlying26 rfl size27 ?_)
        | (go_at_call 24; (with_reducible refine (HR1.out _).mono ?_); rintro e w1 ⟨rfl, hb1⟩; have HK1 := Lib.hid (HK.out.below hb1); clear hb1)
        | (go_at_call 24; (with_reducible refine (HR2.out _).mono ?_); rintro e w2 ⟨rfl, hb1⟩; have HK2 := Lib.hid (HK1.out.below hb1); clear hb1)
        | (refine wpList_stf (neg := false) (n := 0) (d := 0) (neg' := false) (n' := 0) (d' := 0) rfl rfl rfl (by rw [frc_zero]; rfl) (HK2.out.2 _ (.tail _ (.tail _ (.head _)))) size27 ?_))
      exact bodyPost_ret (res_cell_tmp rfl rfl (setRow_heap _ _ _ _ _ _ (HK2.out.2 _ (.tail _ (.tail _ (.head _))))) Tryd.underlying26 rfl (by rw [size27, frcC_size])) rfl ⟨rfl, below_setRow HK2.out.1 (by omega) _⟩
    skip
    have HC2 := HC rfl rfl
    clear HC
    go_upto_region 4 with (first
      | (refine wpList_ldf rfl rfl rfl (HK.out.2 _ (.head _)) Tryd.underlying26 rfl size27 ?_)
      | (refine wpList_guard rfl ?_; refine wpList_ldf rfl rfl rfl (HK1.out.2 _ (.tail _ (.head _))) Tryd.underlying26 rfl size27 ?_)
      | (go_at_call 24; (with_reducible refine (HR1.out _).mono ?_); rintro e w1 ⟨rfl, hb1⟩; have HK1 := Lib.hid (HK.out.below hb1); clear hb1)
      | (go_at_call 24; (with_reducible refine (HR2.out _).mono ?_); rintro e w2 ⟨rfl, hb1⟩; have HK2 := Lib.hid (HK1.out.below hb1); clear hb1; have c2 := frc_cell (HK2.out.2 _ (.tail _ (.head _))))
      | (refine wpList_stb (b := !s2) (s := s2) (n := n2) (d := d2) rfl rfl rfl rfl (HK2.out.2 _ (.tail _ (.head _))) ?_))
    have HK3 : Hid (KS w [(w.heap.size, .cells (frcC s1 n1 d1) 26 (0, 0)), (w.heap.size + 1, .cells (frcC (!s2) n2 d2) 26 (0, 0)), (w.heap.size + 1 + 1, .cells (frcC false 0 0) 26 (0, 0))] (w2.setRow (w.heap.size + 1) (frcC (!s2) n2 d2))) :=
      HK2.out.put (by omega) (.tail _ (.head _)) (by intro p hp; simp only [List.mem_cons, List.not_mem_nil, or_false] at hp; rcases hp with rfl | rfl | rfl; exact .inr ⟨by simp, by simp only; omega⟩; exact .inl rfl; exact .inr ⟨by simp, by simp only; omega⟩)
    generalize w2.setRow (w.heap.size + 1) (frcC (!s2) n2 d2) = W3 at *
    clear c2 HK2 HK1
    go_wp2_with (first
      | (refine wpList_ldf rfl rfl rfl (HK3.out.2 _ (.head _)) Tryd.underlying26 rfl size27 ?_)
      | (refine wpList_ldf rfl rfl rfl (HK3.out.2 _ (.tail _ (.head _))) Tryd.underlying26 rfl size27 ?_)
      | (go_at_call 30; refine (HC2.out _).mono ?_; rintro e w3 ⟨rfl, hb1⟩; have HK4 := Lib.hid (HK3.out.below hb1); clear hb1; rw [HP.out])
      | (refine wpList_stf (neg := s') (n := n') (d := d') (neg' := false) (n' := 0) (d' := 0) rfl rfl rfl rfl (HK4.out.2 _ (.tail _ (.tail _ (.head _)))) size27 ?_))
    exact bodyPost_ret (res_cell_tmp rfl rfl (setRow_heap _ _ _ _ _ _ (HK4.out.2 _ (.tail _ (.tail _ (.head _))))) Tryd.underlying26 rfl (by rw [size27, frcC_size])) rfl ⟨by show _ = Ending.returned CV; rw [HP.out]; rfl, below_setRow HK4.out.1 (by omega) _⟩
end Go.Proofs.YtkfcikijmkgahaaDoor
namespace Go.Proofs.YtkfcikijmkgahaaDoor
open Go.RowKit Tw
variable [ShLZ]
theorem frc_putn (s : Bool) (n d m : Nat) : frcC s m d = ((frcC s n d).toList.take 1 ++ (Value.agg (fa 8 (dg m))).cells.toList ++ (frcC s n d).toList.drop (1 + (Value.agg (fa 8 (dg m))).cells.toList.length)).toArray := by
  have h1 : (frcC s n d).toList = Value.bool s :: ((fa 8 (dg n)).toList ++ (fa 8 (dg d)).toList) := by simp [frcC]
  rw [h1]
  simp [Value.cells, frcC]
theorem frc_putd (s : Bool) (n d m : Nat) : frcC s n m = ((frcC s n d).toList.take 9 ++ (Value.agg (fa 8 (dg m))).cells.toList ++ (frcC s n d).toList.drop (9 + (Value.agg (fa 8 (dg m))).cells.toList.length)).toArray := by
  have h1 : (frcC s n d).toList = (Value.bool s :: (fa 8 (dg n)).toList) ++ (fa 8 (dg d)).toList := by simp [frcC]
  have h2 : (frcC s n d).toList.drop (9 + (Value.agg (fa 8 (dg m))).cells.toList.length) = [] := List.drop_eq_nil_of_le (by simp [Value.cells])
  rw [h2, h1, List.take_append]
  simp [Value.cells, frcC]
  rw [List.take_of_length_le (by simp)]
theorem wpList_stn {P : Program} {ops : Array Oper} {rest : List Oper} {o : Oper} {a : Act} {w : World} {Q : Exit → Act → World → Prop} (hgd : o.guard = none) {ty t : TypeId} {x y : Operand} {g : Nat} {s : Bool} {n d m : Nat} (ho : o.op = .store ty x y)
    (hx : a.eval x = .pointer (some ⟨g, 1, none⟩)) (hv : a.eval y = .agg (fa 8 (dg m))) (hg : w.heap[g]? = some (.cells (frcC s n d) t (0, 0))) (hi : (P.info? ty).map (·.size) = some 8)
    (h : wpList P ops Q rest (a.put o.dst undef) (w.setRow g (frcC s m d))) : wpList P ops Q (o :: rest) a w :=
  wpList_stm hgd ho hx hv hg (by rw [hi]; simp [Value.cells]) (by simp [Value.cells]) fa_one (frc_putn s n d m) h
theorem wpList_std {P : Program} {ops : Array Oper} {rest : List Oper} {o : Oper} {a : Act} {w : World} {Q : Exit → Act → World → Prop} (hgd : o.guard = none) {ty t : TypeId} {x y : Operand} {g : Nat} {s : Bool} {n d m : Nat} (ho : o.op = .store ty x y)
    (hx : a.eval x = .pointer (some ⟨g, 9, none⟩)) (hv : a.eval y = .agg (fa 8 (dg m))) (hg : w.heap[g]? = some (.cells (frcC s n d) t (0, 0))) (hi : (P.info? ty).map (·.size) = some 8)
    (h : wpList P ops Q rest (a.put o.dst undef) (w.setRow g (frcC s n m))) : wpList P ops Q (o :: rest) a w :=
  wpList_stm hgd ho hx hv hg (by rw [hi]; simp [Value.cells]) (by simp [Value.cells]) fa_one (frc_putd s n d m) h

set_option maxRecDepth 100000 in
set_option maxHeartbeats 2000000 in
theorem Div_walk (s1 s2 : Bool) (n1 d1 n2 d2 : Nat) (hn2 : n2 < R 8) (r1 r2 : Bool) (RV CV : Value) (s' : Bool) (n' d' : Nat) (ee : Int)
    (HR1 : Hid (∀ W, Calls Tryd.prog 24 #[.agg (frcC s1 n1 d1)] W fun e w' => e = .returned (.bool r1) ∧ Below W.heap.size W w'))
    (HR2 : Hid (∀ W, Calls Tryd.prog 24 #[.agg (frcC s2 n2 d2)] W fun e w' => e = .returned (.bool r2) ∧ Below W.heap.size W w'))
    (HC2 : Hid (r1 = true ∧ r2 = true ∧ n2 ≠ 0 → ∀ W, Calls Tryd.prog 31 #[.agg (frcC s1 n1 d1), .agg (frcC s2 d2 n2)] W fun e w' => e = .returned CV ∧ Below W.heap.size W w'))
    (HP : Hid (CV = .tuple #[.agg (frcC s' n' d'), .int .i64 ee])) (HV1 : Hid (¬ (r1 = true ∧ r2 = true ∧ n2 ≠ 0) → RV = argV)) (HV2 : Hid (r1 = true ∧ r2 = true ∧ n2 ≠ 0 → RV = CV)) (w : World) :
    Calls Tryd.prog 17 #[frc s1 n1 d1, frc s2 n2 d2] w fun e w' => e = .returned RV ∧ Below w.heap.size w w' := by
  unfold frc
  go_enter Tryd.func17, Tryd.ntmps17
  go_upto_region 1 with (fail)
  have hK := KS.three w (.cells (frcC s1 n1 d1) 26) (.cells (frcC s2 n2 d2) 26) (.cells (frcC false 0 0) 26)
  obtain ⟨W, hW⟩ : ∃ W, W = ((w.alloc (.cells (frcC s1 n1 d1) 26)).alloc (.cells (frcC s2 n2 d2) 26)).alloc (.cells (frcC false 0 0) 26) := ⟨_, rfl⟩
  rw [← hW] at hK
  rw [frc_zero] at hW
  rw [← hW]
  clear hW
  have HK := Lib.hid hK
  clear hK
  by_cases hr1 : r1 = false
  · subst hr1
    have HV := Lib.hid (HV1.out (by simp))
    clear HV1 HV2 HC2
    go_wp2_with (first
      | (refine wpList_ldf rfl rfl rfl (HK.out.2 _ (.head _)) Tryd.underlying26 rfl size27 ?_)
      | (refine wpList_guard rfl ?_; refine wpList_ldf rfl rfl rfl (HK1.out.2 _ (.tail _ (.head _))) Tryd.underlying26 rfl size27 ?_)
      | ((go_at_call 24); (with_reducible refine (HR1.out _).mono ?_); rintro e w1 ⟨rfl, hb1⟩; have HK1 := Lib.hid (HK.out.below hb1); clear hb1)
      | ((go_at_call 24); (with_reducible refine (HR2.out _).mono ?_); rintro e w2 ⟨rfl, hb1⟩; have HK2 := Lib.hid (HK1.out.below hb1); clear hb1)
      | (refine wpList_guard rfl ?_; refine wpList_ldn rfl rfl rfl (HK2.out.2 _ (.tail _ (.head _))) Tryd.underlying24 rfl size25 ?_)
      | (refine wpList_stf (neg := false) (n := 0) (d := 0) (neg' := false) (n' := 0) (d' := 0) rfl rfl rfl (by rw [frc_zero]; rfl) (HK1.out.2 _ (.tail _ (.tail _ (.head _)))) size27 ?_))
    exact bodyPost_ret (res_cell_tmp rfl rfl (setRow_heap _ _ _ _ _ _ (HK1.out.2 _ (.tail _ (.tail _ (.head _))))) Tryd.underlying26 rfl (by rw [size27, frcC_size])) rfl ⟨by rw [HV.out]; rfl, below_setRow HK1.out.1 (by omega) _⟩
  by_cases hr2 : r2 = false
  · have hr1' : r1 = true := by simpa using hr1
    subst hr1' hr2
    have HV := Lib.hid (HV1.out (by simp))
    clear HV1 HV2 HC2 hr1
    go_wp2_with (first
      | (refine wpList_ldf rfl rfl rfl (HK.out.2 _ (.head _)) Tryd.underlying26 rfl size27 ?_)
      | (refine wpList_guard rfl ?_; refine wpList_ldf rfl rfl rfl (HK1.out.2 _ (.tail _ (.head _))) Tryd.underlying26 rfl size27 ?_)
      | ((go_at_call 24); (with_reducible refine (HR1.out _).mono ?_); rintro e w1 ⟨rfl, hb1⟩; have HK1 := Lib.hid (HK.out.below hb1); clear hb1)
      | ((go_at_call 24); (with_reducible refine (HR2.out _).mono ?_); rintro e w2 ⟨rfl, hb1⟩; have HK2 := Lib.hid (HK1.out.below hb1); clear hb1)
      | (refine wpList_guard rfl ?_; refine wpList_ldn rfl rfl rfl (HK2.out.2 _ (.tail _ (.head _))) Tryd.underlying24 rfl size25 ?_)
      | (refine wpList_stf (neg := false) (n := 0) (d := 0) (neg' := false) (n' := 0) (d' := 0) rfl rfl rfl (by rw [frc_zero]; rfl) (HK2.out.2 _ (.tail _ (.tail _ (.head _)))) size27 ?_))
    exact bodyPost_ret (res_cell_tmp rfl rfl (setRow_heap _ _ _ _ _ _ (HK2.out.2 _ (.tail _ (.tail _ (.head _))))) Tryd.underlying26 rfl (by rw [size27, frcC_size])) rfl ⟨by rw [HV.out]; rfl, below_setRow HK2.out.1 (by omega) _⟩
  have hr1' : r1 = true := by simpa using hr1
  have hr2' : r2 = true := by simpa using hr2
  subst hr1' hr2'
  clear hr1 hr2
  by_cases hz : n2 = 0
  · have HV := Lib.hid (HV1.out (by simp [hz]))
    clear HV1 HV2 HC2
    subst hz
    go_wp2_with (first
      | (refine wpList_ldf rfl rfl rfl (HK.out.2 _ (.head _)) Tryd.underlying26 rfl size27 ?_)
      | (refine wpList_guard rfl ?_; refine wpList_ldf rfl rfl rfl (HK1.out.2 _ (.tail _ (.head _))) Tryd.underlying26 rfl size27 ?_)
      | ((go_at_call 24); (with_reducible refine (HR1.out _).mono ?_); rintro e w1 ⟨rfl, hb1⟩; have HK1 := Lib.hid (HK.out.below hb1); clear hb1)
      | ((go_at_call 24); (with_reducible refine (HR2.out _).mono ?_); rintro e w2 ⟨rfl, hb1⟩; have HK2 := Lib.hid (HK1.out.below hb1); clear hb1)
      | (refine wpList_guard rfl ?_; refine wpList_ldn rfl rfl rfl (HK2.out.2 _ (.tail _ (.head _))) Tryd.underlying24 rfl size25 ?_)
      | (refine wpList_stf (neg := false) (n := 0) (d := 0) (neg' := false) (n' := 0) (d' := 0) rfl rfl rfl (by rw [frc_zero]; rfl) (HK2.out.2 _ (.tail _ (.tail _ (.head _)))) size27 ?_))
    exact bodyPost_ret (res_cell_tmp rfl rfl (setRow_heap _ _ _ _ _ _ (HK2.out.2 _ (.tail _ (.tail _ (.head _))))) Tryd.underlying26 rfl (by rw [size27, frcC_size])) rfl ⟨by rw [HV.out]; rfl, below_setRow HK2.out.1 (by omega) _⟩
  have HV := Lib.hid (HV2.out ⟨rfl, rfl, hz⟩)
  have HC := Lib.hid (HC2.out ⟨rfl, rfl, hz⟩)
  clear HV1 HV2 HC2
  go_upto_region 4 with (first
      | (refine wpList_ldf rfl rfl rfl (HK.out.2 _ (.head _)) Tryd.underlying26 rfl size27 ?_)
      | (refine wpList_guard rfl ?_; refine wpList_ldf rfl rfl rfl (HK1.out.2 _ (.tail _ (.head _))) Tryd.underlying26 rfl size27 ?_)
      | ((go_at_call 24); (with_reducible refine (HR1.out _).mono ?_); rintro e w1 ⟨rfl, hb1⟩; have HK1 := Lib.hid (HK.out.below hb1); clear hb1)
      | ((go_at_call 24); (with_reducible refine (HR2.out _).mono ?_); rintro e w2 ⟨rfl, hb1⟩; have HK2 := Lib.hid (HK1.out.below hb1); clear hb1)
      | (refine wpList_guard rfl ?_; refine wpList_ldn rfl rfl rfl (HK2.out.2 _ (.tail _ (.head _))) Tryd.underlying24 rfl size25 ?_)
      | (refine wpList_ldd rfl rfl rfl (HK2.out.2 _ (.tail _ (.head _))) Tryd.underlying24 rfl size25 ?_)
      | (refine wpList_ldn rfl rfl rfl (HK2.out.2 _ (.tail _ (.head _))) Tryd.underlying24 rfl size25 ?_)
      | (refine wpList_stn (s := s2) (n := n2) (d := d2) (m := d2) rfl rfl rfl rfl (HK2.out.2 _ (.tail _ (.head _))) size25 ?_)
      | (refine wpList_std (s := s2) (n := d2) (d := d2) (m := n2) rfl rfl rfl rfl (setRow_heap _ _ _ _ _ _ (HK2.out.2 _ (.tail _ (.head _)))) size25 ?_))
  have HK3 : Hid (KS w [(w.heap.size, .cells (frcC s1 n1 d1) 26 (0, 0)), (w.heap.size + 1, .cells (frcC s2 (d2) (d2)) 26 (0, 0)), (w.heap.size + 1 + 1, .cells (frcC false 0 0) 26 (0, 0))] (w2.setRow (w.heap.size + 1) (frcC s2 d2 d2))) := HK2.out.put (by omega) (.tail _ (.head _)) (by intro p hp; simp only [List.mem_cons, List.not_mem_nil, or_false] at hp; rcases hp with rfl | rfl | rfl; exact .inr ⟨by simp, by simp only; omega⟩; exact .inl rfl; exact .inr ⟨by simp, by simp only; omega⟩)
  generalize w2.setRow (w.heap.size + 1) (frcC s2 d2 d2) = W3 at *
  have HK4 : Hid (KS w [(w.heap.size, .cells (frcC s1 n1 d1) 26 (0, 0)), (w.heap.size + 1, .cells (frcC s2 (d2) (n2)) 26 (0, 0)), (w.heap.size + 1 + 1, .cells (frcC false 0 0) 26 (0, 0))] (W3.setRow (w.heap.size + 1) (frcC s2 d2 n2))) := HK3.out.put (by omega) (.tail _ (.head _)) (by intro p hp; simp only [List.mem_cons, List.not_mem_nil, or_false] at hp; rcases hp with rfl | rfl | rfl; exact .inr ⟨by simp, by simp only; omega⟩; exact .inl rfl; exact .inr ⟨by simp, by simp only; omega⟩)
  generalize W3.setRow (w.heap.size + 1) (frcC s2 d2 n2) = W4 at *
  clear HK3 HK2 HK1
  go_wp2_with (first
    | (refine wpList_ldf rfl rfl rfl (HK4.out.2 _ (.head _)) Tryd.underlying26 rfl size27 ?_)
    | (refine wpList_ldf rfl rfl rfl (HK4.out.2 _ (.tail _ (.head _))) Tryd.underlying26 rfl size27 ?_)
    | ((go_at_call 31); refine (HC.out _).mono ?_; rintro e w3 ⟨rfl, hb1⟩; have HK5 := Lib.hid (HK4.out.below hb1); clear hb1; rw [HP.out])
    | (refine wpList_stf (neg := s') (n := n') (d := d') (neg' := false) (n' := 0) (d' := 0) rfl rfl rfl rfl (HK5.out.2 _ (.tail _ (.tail _ (.head _)))) size27 ?_))
  exact bodyPost_ret (res_cell_tmp rfl rfl (setRow_heap _ _ _ _ _ _ (HK5.out.2 _ (.tail _ (.tail _ (.head _))))) Tryd.underlying26 rfl (by rw [size27, frcC_size])) rfl ⟨by rw [HV.out, HP.out]; rfl, below_setRow HK5.out.1 (by omega) _⟩
theorem Div_any (s1 s2 : Bool) (n1 d1 n2 d2 : Nat) (hn1 : n1 < R 8) (hd1 : d1 < R 8) (hn2 : n2 < R 8) (hd2 : d2 < R 8) (w : World) :
    Calls Tryd.prog 17 #[frc s1 n1 d1, frc s2 n2 d2] w fun e w' => e = .returned (if rightB s1 n1 d1 = true ∧ rightB s2 n2 d2 = true ∧ n2 ≠ 0 then mulV s1 n1 d1 s2 d2 n2 else argV) ∧ Below w.heap.size w w' := by
  obtain ⟨s', n', d', ee, hp⟩ : ∃ s' n' d' e, mulV s1 n1 d1 s2 d2 n2 = .tuple #[.agg (frcC s' n' d'), .int .i64 e] := packV_shape _ _ _
  exact Div_walk s1 s2 n1 d1 n2 d2 hn2 _ _ _ _ s' n' d' ee (fun W => right_any s1 n1 d1 hn1 hd1 W) (fun W => right_any s2 n2 d2 hn2 hd2 W)
    (fun h W => mul_any s1 s2 n1 d1 d2 n2 hn1 hd1 hd2 hn2 (right_den h.1) (by omega) W) hp (fun h => if_neg h) (fun h => if_pos h) w
end Go.Proofs.YtkfcikijmkgahaaDoor
