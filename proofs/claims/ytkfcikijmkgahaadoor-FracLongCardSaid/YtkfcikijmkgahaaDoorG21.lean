import Derived.Test.YtkfcikijmkgahaaDoorG18
import Derived.Test.YtkfcikijmkgahaaDoorG20
import Derived.Test.YtkfcikijmkgahaaDoorG16
import Derived.Test.YtkfcikijmkgahaaDoorG00
/- Part of the proof: Rd, Rf, Ra, Rb, La. -/
set_option linter.unusedVariables false
set_option linter.unusedSimpArgs false
set_option linter.unusedSectionVars false
namespace Go.Proofs.YtkfcikijmkgahaaDoor
open Go.RowKit Tw
variable [ShLZ]
variable [ShSt]
theorem ba_list (l : List UInt8) : (⟨l.toArray⟩ : ByteArray).toList = l := by rw [ByteArray.toList_eq]
theorem run_eqs {a b : List UInt8} {c : Bool} (h : (a == b) = c) {x y : Operand} (w : World) : (do eqGuard .eql 9 x y (.string ⟨a.toArray⟩) (.string ⟨b.toArray⟩); binOp .eql 9 (.string ⟨a.toArray⟩) (.string ⟨b.toArray⟩) : Sem Value).run Tryd.prog w = .ok (.bool c) w := by
  subst h
  go_simp
theorem run_neqs {a b : List UInt8} {c : Bool} (h : (a == b) = c) {x y : Operand} (w : World) : (do eqGuard .neq 9 x y (.string ⟨a.toArray⟩) (.string ⟨b.toArray⟩); binOp .neq 9 (.string ⟨a.toArray⟩) (.string ⟨b.toArray⟩) : Sem Value).run Tryd.prog w = .ok (.bool (!c)) w := by
  subst h
  go_simp
theorem text_any (s : Bool) (n d : Nat) (hn : n < R 8) (hd : d < R 8) (w : World) (hE : Env w) :
    Calls Tryd.prog 20 #[frc s n d] w fun e w' => e = .returned (if rightB s n d = true then .tuple #[txt (textL s n d), .int .i64 0] else .tuple #[txt [], .int .i64 2]) ∧ Below w.heap.size w w' :=
  Text_walk s (rightB s n d) n d ⟨hn, hd⟩ w hE (Lib.decDigits n) (Lib.decDigits d) (dec_len78 hn) (dec_len78 hd) (fun W => right_any s n d hn hd W)
    (fun W hW => decimal_any n hn W hW) (fun W hW => decimal_any d hd W hW) _ rfl
set_option maxRecDepth 100000 in
set_option maxHeartbeats 4000000 in
theorem Read_walk (l u a b0 b t : List UInt8) (neg ra da db zb pa pb eb : Bool) (x y : Nat) (te : Int) (w : World) (HE : Hid (Env w)) (hb : (ra = true ∧ b = b0) ∨ (ra = false ∧ b = [49]))
    (HC1 : Hid (∀ W, Calls Tryd.prog 42 #[.string ⟨(l).toArray⟩, .string ⟨#[45]⟩] W fun e w' => e = .returned (.tuple #[.string ⟨(u).toArray⟩, .bool neg]) ∧ Below W.heap.size W w'))
    (HC2 : Hid (∀ W, Env W → Calls Tryd.prog 43 #[.string ⟨(u).toArray⟩, .string ⟨#[47]⟩] W fun e w' => e = .returned (.tuple #[.string ⟨(a).toArray⟩, .string ⟨(b0).toArray⟩, .bool ra]) ∧ Below W.heap.size W w'))
    (HDa : Hid (∀ W, Calls Tryd.prog 44 #[.string ⟨(a).toArray⟩] W fun e w' => e = .returned (.bool da) ∧ Below W.heap.size W w'))
    (HDb : Hid (∀ W, Calls Tryd.prog 44 #[.string ⟨(b).toArray⟩] W fun e w' => e = .returned (.bool db) ∧ Below W.heap.size W w'))
    (HPa : Hid (da = true → ∀ W, Calls Tryd.prog 45 #[.string ⟨(a).toArray⟩] W fun e w' => e = .returned (.tuple #[.agg (fa 8 (dg x)), .bool pa]) ∧ Below W.heap.size W w'))
    (HPb : Hid (db = true → ∀ W, Calls Tryd.prog 45 #[.string ⟨(b).toArray⟩] W fun e w' => e = .returned (.tuple #[.agg (fa 8 (dg y)), .bool pb]) ∧ Below W.heap.size W w'))
    (HT : Hid (∀ W, Env W → Calls Tryd.prog 20 #[.agg (frcC neg x y)] W fun e w' => e = .returned (.tuple #[.string ⟨(t).toArray⟩, .int .i64 te]) ∧ Below W.heap.size W w'))
    (HZ : Hid ((b == [48]) = zb)) (HT0 : Hid (te = 0 ∨ te = 2)) (HQ : Hid ((t == l) = eb)) (V : Value)
    (HV : Hid (V = if da = true ∧ db = true ∧ zb = false then (if pa = true ∧ pb = true then (if te = 0 ∧ eb = true then .tuple #[frc neg x y, .int .i64 0] else .tuple #[frc false 0 0, .int .i64 11]) else .tuple #[frc false 0 0, .int .i64 3]) else .tuple #[frc false 0 0, .int .i64 10])) :
    Calls Tryd.prog 21 #[.string ⟨(l).toArray⟩] w fun e w' => e = .returned V ∧ Below w.heap.size w w' := by
  unfold frc at HV
  go_enter Tryd.func21, Tryd.ntmps21
  go_upto_region 1 with (fail)
  have hK := KS.one w (.cells (frcC false 0 0) 26)
  obtain ⟨W, hW⟩ : ∃ W, W = w.alloc (.cells (frcC false 0 0) 26) := ⟨_, rfl⟩
  rw [← hW] at hK
  rw [frc_zero] at hW
  rw [← hW]
  clear hW
  have HK := Lib.hid hK
  clear hK
  rcases hb with ⟨rfl, rfl⟩ | ⟨rfl, rfl⟩
  all_goals
    go_upto_region 5 with (first
      | ((go_at_call 42); (with_reducible refine (HC1.out _).mono ?_); rintro e w1 ⟨rfl, hb1⟩; have HK1 := Lib.hid (HK.out.below hb1); clear hb1; have E1 := Lib.hid (HE.out.keep HK1.out.1))
      | ((go_at_call 43); (with_reducible refine (HC2.out _ E1.out).mono ?_); rintro e w2 ⟨rfl, hb1⟩; have HK2 := Lib.hid (HK1.out.below hb1); clear hb1))
    clear HK HK1 HC1 HC2 E1
    cases da
    · go_wp2_with (first
        | ((go_at_call 44); (with_reducible refine (HDa.out _).mono ?_); rintro e w3 ⟨rfl, hb1⟩; have HK3 := Lib.hid (HK2.out.below hb1); clear hb1)
        | (refine wpList_stf (neg := false) (n := 0) (d := 0) (neg' := false) (n' := 0) (d' := 0) rfl rfl rfl (by rw [frc_zero]; rfl) (HK3.out.2 _ (.head _)) size27 ?_))
      exact bodyPost_ret (res_cell_tmp rfl rfl (setRow_heap _ _ _ _ _ _ (HK3.out.2 _ (.head _))) Tryd.underlying26 rfl (by rw [size27, frcC_size])) rfl ⟨by rw [HV.out]; rfl, below_setRow HK3.out.1 (by omega) _⟩
    cases db
    · go_wp2_with (first
        | ((go_at_call 44); (with_reducible refine (HDa.out _).mono ?_); rintro e w3 ⟨rfl, hb1⟩; have HK3 := Lib.hid (HK2.out.below hb1); clear hb1)
        | ((go_at_call 44); (with_reducible refine (HDb.out _).mono ?_); rintro e w4 ⟨rfl, hb1⟩; have HK4 := Lib.hid (HK3.out.below hb1); clear hb1)
        | (refine wpList_stf (neg := false) (n := 0) (d := 0) (neg' := false) (n' := 0) (d' := 0) rfl rfl rfl (by rw [frc_zero]; rfl) (HK4.out.2 _ (.head _)) size27 ?_))
      exact bodyPost_ret (res_cell_tmp rfl rfl (setRow_heap _ _ _ _ _ _ (HK4.out.2 _ (.head _))) Tryd.underlying26 rfl (by rw [size27, frcC_size])) rfl ⟨by rw [HV.out]; rfl, below_setRow HK4.out.1 (by omega) _⟩
    cases zb
    rotate_left
    · go_wp2_with (first
        | ((go_at_call 44); (with_reducible refine (HDa.out _).mono ?_); rintro e w3 ⟨rfl, hb1⟩; have HK3 := Lib.hid (HK2.out.below hb1); clear hb1)
        | ((go_at_call 44); (with_reducible refine (HDb.out _).mono ?_); rintro e w4 ⟨rfl, hb1⟩; have HK4 := Lib.hid (HK3.out.below hb1); clear hb1)
        | (refine wpList_guard rfl ?_; refine wpList_bin rfl rfl rfl rfl (fun w => run_eqs HZ.out w) ?_)
        | (refine wpList_stf (neg := false) (n := 0) (d := 0) (neg' := false) (n' := 0) (d' := 0) rfl rfl rfl (by rw [frc_zero]; rfl) (HK4.out.2 _ (.head _)) size27 ?_))
      exact bodyPost_ret (res_cell_tmp rfl rfl (setRow_heap _ _ _ _ _ _ (HK4.out.2 _ (.head _))) Tryd.underlying26 rfl (by rw [size27, frcC_size])) rfl ⟨by rw [HV.out]; rfl, below_setRow HK4.out.1 (by omega) _⟩
    go_upto_region 7 with (first
        | ((go_at_call 44); (with_reducible refine (HDa.out _).mono ?_); rintro e w3 ⟨rfl, hb1⟩; have HK3 := Lib.hid (HK2.out.below hb1); clear hb1)
        | ((go_at_call 44); (with_reducible refine (HDb.out _).mono ?_); rintro e w4 ⟨rfl, hb1⟩; have HK4 := Lib.hid (HK3.out.below hb1); clear hb1)
        | (refine wpList_guard rfl ?_; refine wpList_bin rfl rfl rfl rfl (fun w => run_eqs HZ.out w) ?_))
    have HPA := Lib.hid (HPa.out trivial)
    have HPB := Lib.hid (HPb.out trivial)
    clear HDa HDb HPa HPb HK2 HK3
    go_upto_region 8 with (first
        | ((go_at_call 45); (with_reducible refine (HPA.out _).mono ?_); rintro e w5 ⟨rfl, hb1⟩; have HK5 := Lib.hid (HK4.out.below hb1); clear hb1)
        | (refine wpList_sta (f := dg x) (f' := fun _ => 0) rfl rfl rfl rfl (heap1 w5 _) size25 ?_))
    have HK6 := Lib.hid (HK5.out.newvar (cs := fa 8 (fun _ => 0)) (cs' := fa 8 (dg x)) (t := 24))
    have f_g6 := HK5.out.fresh.1
    have k_g6 := HK5.out.fresh.2
    rw [← fa_zero8]
    generalize (w5.alloc (.cells (fa 8 (fun _ => 0)) 24)).setRow w5.heap.size (fa 8 (dg x)) = W6 at *
    generalize w5.heap.size = g6 at *
    simp only [List.forall_mem_cons] at k_g6
    clear HK5
    go_upto_region 9 with (first
        | ((go_at_call 45); (with_reducible refine (HPB.out _).mono ?_); rintro e w7 ⟨rfl, hb1⟩; have HK7 := Lib.hid (HK6.out.below hb1); clear hb1)
        | (refine wpList_sta (f := dg y) (f' := fun _ => 0) rfl rfl rfl rfl (heap1 w7 _) size25 ?_))
    have HK8 := Lib.hid (HK7.out.newvar (cs := fa 8 (fun _ => 0)) (cs' := fa 8 (dg y)) (t := 24))
    have f_g8 := HK7.out.fresh.1
    have k_g8 := HK7.out.fresh.2
    rw [← fa_zero8]
    generalize (w7.alloc (.cells (fa 8 (fun _ => 0)) 24)).setRow w7.heap.size (fa 8 (dg y)) = W8 at *
    generalize w7.heap.size = g8 at *
    simp only [List.forall_mem_cons] at k_g8
    clear HK7
    cases pa
    · go_wp2_with (first
        | (refine wpList_stf (neg := false) (n := 0) (d := 0) (neg' := false) (n' := 0) (d' := 0) rfl rfl rfl (by rw [frc_zero]; rfl) (HK8.out.2 _ (.tail _ (.tail _ (.head _)))) size27 ?_))
      exact bodyPost_ret (res_cell_tmp rfl rfl (setRow_heap _ _ _ _ _ _ (HK8.out.2 _ (.tail _ (.tail _ (.head _))))) Tryd.underlying26 rfl (by rw [size27, frcC_size])) rfl ⟨by rw [HV.out]; rfl, below_setRow HK8.out.1 (by omega) _⟩
    cases pb
    · go_wp2_with (first
        | (refine wpList_stf (neg := false) (n := 0) (d := 0) (neg' := false) (n' := 0) (d' := 0) rfl rfl rfl (by rw [frc_zero]; rfl) (HK8.out.2 _ (.tail _ (.tail _ (.head _)))) size27 ?_))
      exact bodyPost_ret (res_cell_tmp rfl rfl (setRow_heap _ _ _ _ _ _ (HK8.out.2 _ (.tail _ (.tail _ (.head _))))) Tryd.underlying26 rfl (by rw [size27, frcC_size])) rfl ⟨by rw [HV.out]; rfl, below_setRow HK8.out.1 (by omega) _⟩
    go_upto_region 12 with (first
        | (refine wpList_lda rfl rfl rfl (HK8.out.2 _ (.tail _ (.head _))) Tryd.underlying24 rfl size25 ?_)
        | (refine wpList_lda rfl rfl rfl (HK8.out.2 _ (.head _)) Tryd.underlying24 rfl size25 ?_)
        | (refine wpList_bf (s := neg) (n := x) (d := y) rfl rfl rfl rfl rfl ?_)
        | (refine wpList_stf (neg := neg) (n := x) (d := y) (neg' := false) (n' := 0) (d' := 0) rfl rfl rfl rfl (by rw [frc_zero]; exact heap1 W8 _) size27 ?_))
    have HK9 := Lib.hid (HK8.out.newvar (cs := frcC false 0 0) (cs' := frcC neg x y) (t := 26))
    have k_g9 := HK8.out.fresh.2
    rw [← frc_zero]
    generalize (W8.alloc (.cells (frcC false 0 0) 26)).setRow W8.heap.size (frcC neg x y) = W9 at *
    generalize W8.heap.size = g9 at *
    clear k_g9 HK8
    have E9 := Lib.hid (HE.out.keep HK9.out.1)
    rcases HT0.out with rfl | rfl
    · cases eb
      · go_wp2_with (first
          | (refine wpList_ldf rfl rfl rfl (HK9.out.2 _ (.head _)) Tryd.underlying26 rfl size27 ?_)
          | ((go_at_call 20); (with_reducible refine (HT.out _ E9.out).mono ?_); rintro e w10 ⟨rfl, hb1⟩; have HK10 := Lib.hid (HK9.out.below hb1); clear hb1)
          | (refine wpList_guard rfl ?_; refine wpList_bin rfl rfl rfl rfl (fun w => run_neqs HQ.out w) ?_)
          | (refine wpList_stf (neg := false) (n := 0) (d := 0) (neg' := false) (n' := 0) (d' := 0) rfl rfl rfl (by rw [frc_zero]; rfl) (HK10.out.2 _ (.tail _ (.tail _ (.tail _ (.head _))))) size27 ?_))
        exact bodyPost_ret (res_cell_tmp rfl rfl (setRow_heap _ _ _ _ _ _ (HK10.out.2 _ (.tail _ (.tail _ (.tail _ (.head _)))))) Tryd.underlying26 rfl (by rw [size27, frcC_size])) rfl ⟨by rw [HV.out]; rfl, below_setRow HK10.out.1 (by omega) _⟩
      · go_wp2_with (first
          | (refine wpList_ldf rfl rfl rfl (HK9.out.2 _ (.head _)) Tryd.underlying26 rfl size27 ?_)
          | ((go_at_call 20); (with_reducible refine (HT.out _ E9.out).mono ?_); rintro e w10 ⟨rfl, hb1⟩; have HK10 := Lib.hid (HK9.out.below hb1); clear hb1)
          | (refine wpList_guard rfl ?_; refine wpList_bin rfl rfl rfl rfl (fun w => run_neqs HQ.out w) ?_)
          | (refine wpList_ldf rfl rfl rfl (HK10.out.2 _ (.head _)) Tryd.underlying26 rfl size27 ?_)
          | (refine wpList_stf (neg := neg) (n := x) (d := y) (neg' := false) (n' := 0) (d' := 0) rfl rfl rfl rfl (HK10.out.2 _ (.tail _ (.tail _ (.tail _ (.head _))))) size27 ?_))
        exact bodyPost_ret (res_cell_tmp rfl rfl (setRow_heap _ _ _ _ _ _ (HK10.out.2 _ (.tail _ (.tail _ (.tail _ (.head _)))))) Tryd.underlying26 rfl (by rw [size27, frcC_size])) rfl ⟨by rw [HV.out]; rfl, below_setRow HK10.out.1 (by omega) _⟩
    · go_wp2_with (first
          | (refine wpList_ldf rfl rfl rfl (HK9.out.2 _ (.head _)) Tryd.underlying26 rfl size27 ?_)
          | ((go_at_call 20); (with_reducible refine (HT.out _ E9.out).mono ?_); rintro e w10 ⟨rfl, hb1⟩; have HK10 := Lib.hid (HK9.out.below hb1); clear hb1)
          | (refine wpList_guard rfl ?_; refine wpList_bin rfl rfl rfl rfl (fun w => run_neqs HQ.out w) ?_)
          | (refine wpList_stf (neg := false) (n := 0) (d := 0) (neg' := false) (n' := 0) (d' := 0) rfl rfl rfl (by rw [frc_zero]; rfl) (HK10.out.2 _ (.tail _ (.tail _ (.tail _ (.head _))))) size27 ?_))
      exact bodyPost_ret (res_cell_tmp rfl rfl (setRow_heap _ _ _ _ _ _ (HK10.out.2 _ (.tail _ (.tail _ (.tail _ (.head _)))))) Tryd.underlying26 rfl (by rw [size27, frcC_size])) rfl ⟨by rw [HV.out]; rfl, below_setRow HK10.out.1 (by omega) _⟩
end Go.Proofs.YtkfcikijmkgahaaDoor
namespace Go.Proofs.YtkfcikijmkgahaaDoor
open Go.RowKit Tw
variable [ShLZ]
variable [ShSt]
def pOk (a : List UInt8) : Bool := decide (a.length ≤ 78 ∧ decV a < R 8)
def pVal (a : List UInt8) : Nat := if pOk a = true then decV a else 0
/-- the parts of a text: the sign, what is above, what is below -/
def rNeg (l : List UInt8) : Bool := Lib.hasPrefix l [45]
def rCut (l : List UInt8) : List UInt8 × List UInt8 × Bool := Lib.cut (Lib.trimPrefix l [45]) [47]
def rBelow (l : List UInt8) : List UInt8 := if (rCut l).2.2 = true then (rCut l).2.1 else [49]
def rText (neg : Bool) (x y : Nat) : List UInt8 := if rightB neg x y = true then textL neg x y else []
def rErr (neg : Bool) (x y : Nat) : Int := if rightB neg x y = true then 0 else 2
/-- what Read answers -/
def readV (l : List UInt8) : Value :=
  if digL (rCut l).1 = true ∧ digL (rBelow l) = true ∧ (rBelow l == [48]) = false then
    (if pOk (rCut l).1 = true ∧ pOk (rBelow l) = true then
      (if rErr (rNeg l) (pVal (rCut l).1) (pVal (rBelow l)) = 0 ∧ (rText (rNeg l) (pVal (rCut l).1) (pVal (rBelow l)) == l) = true then .tuple #[frc (rNeg l) (pVal (rCut l).1) (pVal (rBelow l)), .int .i64 0] else .tuple #[frc false 0 0, .int .i64 11])
      else .tuple #[frc false 0 0, .int .i64 3])
    else .tuple #[frc false 0 0, .int .i64 10]
theorem pVal_lt (a : List UInt8) : pVal a < R 8 := by
  unfold pVal
  by_cases h : pOk a = true
  · rw [if_pos h]; unfold pOk at h; simp at h; exact h.2
  · rw [if_neg h]; exact R_pos 8
theorem parse_ok (a : List UInt8) (hd : digL a = true) (hs : a.length < 4611686018427387904) (W : World) :
    Calls Tryd.prog 45 #[.string ⟨a.toArray⟩] W fun e w' => e = .returned (.tuple #[.agg (fa 8 (dg (pVal a))), .bool (pOk a)]) ∧ Below W.heap.size W w' := by
  have h1 : a.all isDig = true := by unfold digL at hd; simp at hd; simpa using hd.1
  refine (parse_any ⟨a.toArray⟩ (by rw [ba_list]; exact h1) (by rw [ba_size]; exact hs) W).mono fun e w' ⟨he, hb⟩ => ⟨?_, hb⟩
  rw [he, ba_list]
  unfold parseV pVal pOk
  by_cases h : a.length ≤ 78 ∧ decV a < R 8
  · rw [if_pos h]; simp [h]; rfl
  · rw [if_neg h]; simp [h]; rfl
theorem cut_le (u s : List UInt8) : (Lib.cut u s).1.length ≤ u.length ∧ (Lib.cut u s).2.1.length ≤ u.length := by
  unfold Lib.cut
  split <;> simp <;> omega
theorem trim_le (u s : List UInt8) : (Lib.trimPrefix u s).length ≤ u.length := by
  unfold Lib.trimPrefix
  split <;> simp
theorem read_any (l : List UInt8) (hl : l.length < 4294967281) (w : World) (hE : Env w) :
    Calls Tryd.prog 21 #[.string ⟨l.toArray⟩] w fun e w' => e = .returned (readV l) ∧ Below w.heap.size w w' := by
  have h1 := trim_le l [45]
  have h2 := cut_le (Lib.trimPrefix l [45]) [47]
  have h3 : (rBelow l).length ≤ l.length + 1 := by unfold rBelow rCut; split; (omega); (simp)
  have h4 : (rCut l).1.length ≤ l.length := by unfold rCut; omega
  refine Read_walk l (Lib.trimPrefix l [45]) (rCut l).1 (rCut l).2.1 (rBelow l) (rText (rNeg l) (pVal (rCut l).1) (pVal (rBelow l))) (rNeg l) (rCut l).2.2 _ _ _ (pOk (rCut l).1) (pOk (rBelow l)) _
    (pVal (rCut l).1) (pVal (rBelow l)) (rErr (rNeg l) (pVal (rCut l).1) (pVal (rBelow l))) w hE ?_ (fun W => ?_) (fun W hW => ?_) (fun W => ?_) (fun W => ?_) (fun hd W => parse_ok _ hd (by omega) W) (fun hd W => parse_ok _ hd (by omega) W) (fun W hW => ?_) rfl ?_ rfl _ rfl
  · unfold rBelow
    cases (rCut l).2.2
    · exact .inr ⟨rfl, rfl⟩
    · exact .inl ⟨rfl, rfl⟩
  · exact ShSt.cutPrefix l W
  · exact ShSt.cut (Lib.trimPrefix l [45]) (by omega) W hW
  · refine (digits_any ⟨(rCut l).1.toArray⟩ (by rw [ba_size]; omega) W).mono fun e w' ⟨he, hb⟩ => ⟨?_, hb⟩
    rw [he, ba_list]
  · refine (digits_any ⟨(rBelow l).toArray⟩ (by rw [ba_size]; omega) W).mono fun e w' ⟨he, hb⟩ => ⟨?_, hb⟩
    rw [he, ba_list]
  · refine (text_any (rNeg l) (pVal (rCut l).1) (pVal (rBelow l)) (pVal_lt _) (pVal_lt _) W hW).mono fun e w' ⟨he, hb⟩ => ⟨?_, hb⟩
    rw [he]
    unfold rText rErr
    by_cases h : rightB (rNeg l) (pVal (rCut l).1) (pVal (rBelow l)) = true
    · rw [if_pos h, if_pos h, if_pos h]; rfl
    · rw [if_neg h, if_neg h, if_neg h]; rfl
  · unfold rErr Hid
    split <;> simp
end Go.Proofs.YtkfcikijmkgahaaDoor
namespace Go.Proofs.YtkfcikijmkgahaaDoor
open Go.RowKit Tw
variable [ShLZ]
/-- a number with its sign -/
def sg (s : Bool) (n : Nat) : Int := if s = true then -(n : Int) else n
theorem sg_abs (s : Bool) (n : Nat) : (sg s n).natAbs = n := by unfold sg; split <;> simp
theorem sg_of (x : Int) : sg (decide (x < 0)) x.natAbs = x := by
  unfold sg
  by_cases h : x < 0
  · rw [if_pos (by simpa using h)]; omega
  · rw [if_neg (by simpa using h)]; omega
theorem sg_neg (s : Bool) (n : Nat) : (s && decide (n ≠ 0)) = decide (sg s n < 0) := by
  rw [Bool.eq_iff_iff]
  simp only [Bool.and_eq_true, decide_eq_true_eq]
  cases s
  · simp [sg] <;> omega
  · simp [sg] <;> omega
theorem ps_int (x y : Bool) (a b : Nat) : sg (psS x y a b) (psN x y a b) = sg x a + sg y b := by
  unfold psS psN
  by_cases h : x = y
  · subst h
    simp only [if_true]
    cases x <;> simp [sg] <;> omega
  · simp only [if_neg h]
    by_cases hab : a < b
    · simp only [if_pos hab]
      cases x <;> cases y <;> simp_all [sg] <;> omega
    · simp only [if_neg hab]
      cases x <;> cases y <;> simp_all [sg] <;> omega
/-- a fraction as a value, and what an operation answers about it -/
def ratV (x : Rat) : Value := frc (decide (x.num < 0)) x.num.natAbs x.den
def fits (x : Rat) : Prop := x.num.natAbs < R 8 ∧ x.den < R 8
instance (x : Rat) : Decidable (fits x) := by unfold fits; exact inferInstance
def fracV (x : Rat) : Value := if fits x then .tuple #[ratV x, .int .i64 0] else .tuple #[frc false 0 0, .int .i64 3]
theorem packV_rat {S : Bool} {N D : Nat} (z : Rat) (hn : z.num.natAbs = N) (hd : z.den = D) (hs : (S && decide (N ≠ 0)) = decide (z.num < 0)) : packV S N D = fracV z := by
  subst hn hd
  unfold packV fracV fits ratV
  rw [hs]
theorem right_rat {s : Bool} {n d : Nat} (h : rightB s n d = true) : ∃ x : Rat, x.num = sg s n ∧ x.den = d ∧ x.num.natAbs = n ∧ decide (x.num < 0) = s := by
  have hd := right_den h
  have hg : Nat.gcd n d = 1 := by
    unfold rightB at h
    split at h
    · rename_i h0; simp at h; simp [h0, h.2]
    · simp at h; exact h.2
  refine ⟨⟨sg s n, d, by omega, by unfold Nat.Coprime; rw [sg_abs]; exact hg⟩, rfl, rfl, sg_abs s n, ?_⟩
  show decide (sg s n < 0) = s
  unfold rightB at h
  cases s
  · simp [sg] <;> omega
  · split at h
    · simp at h
    · simp [sg] <;> omega
theorem rat_right (x : Rat) : rightB (decide (x.num < 0)) x.num.natAbs x.den = true := by
  unfold rightB
  have hr : Nat.gcd x.num.natAbs x.den = 1 := x.reduced
  split
  · rename_i h
    rw [h, Nat.gcd_zero_left] at hr
    have : x.num = 0 := by omega
    simp [hr, this]
  · simp [x.den_nz, hr]
theorem addV_rat (x y : Rat) : addV (decide (x.num < 0)) x.num.natAbs x.den (decide (y.num < 0)) y.num.natAbs y.den = fracV (x + y) := by
  have hs : sg (psS (decide (x.num < 0)) (decide (y.num < 0)) (x.num.natAbs * (y.den / Nat.gcd x.den y.den)) (y.num.natAbs * (x.den / Nat.gcd x.den y.den)))
      (psN (decide (x.num < 0)) (decide (y.num < 0)) (x.num.natAbs * (y.den / Nat.gcd x.den y.den)) (y.num.natAbs * (x.den / Nat.gcd x.den y.den)))
      = x.num * ((y.den / x.den.gcd y.den : Nat) : Int) + y.num * ((x.den / x.den.gcd y.den : Nat) : Int) := by
    have hm : ∀ (s : Bool) (a b : Nat), sg s (a * b) = sg s a * (b : Int) := fun s a b => by
      unfold sg; split <;> simp [Int.neg_mul]
    rw [ps_int, hm, hm, sg_of, sg_of]
  unfold addV
  generalize psS _ _ _ _ = S at *
  generalize hN : psN _ _ _ _ = N at *
  obtain ⟨h1, h2, h3, h4⟩ := add_rat x y (sg S N) hs (Nat.gcd N (Nat.gcd x.den y.den)) (by rw [sg_abs])
  rw [sg_abs] at h1
  refine packV_rat (x + y) h1 h2 ?_
  rw [← h1, Bool.eq_iff_iff]
  simp only [Bool.and_eq_true, decide_eq_true_eq]
  rw [h3]
  have h5 := sg_neg S N
  rw [Bool.eq_iff_iff] at h5
  simp only [Bool.and_eq_true, decide_eq_true_eq] at h5
  rw [← h5]
  have h6 : (x + y).num.natAbs = 0 ↔ N = 0 := by
    rw [Int.natAbs_eq_zero, h4]
    constructor
    · intro h; have := congrArg Int.natAbs h; rwa [sg_abs] at this
    · intro h; rw [h]; cases S <;> rfl
  simp [h6]
theorem mulV_rat (x y : Rat) : mulV (decide (x.num < 0)) x.num.natAbs x.den (decide (y.num < 0)) y.num.natAbs y.den = fracV (x * y) := by
  obtain ⟨h1, h2, h3, h4⟩ := mul_rat x y
  unfold mulV
  refine packV_rat (x * y) h1 h2 ?_
  rw [← h1, Bool.eq_iff_iff]
  simp only [Bool.and_eq_true, decide_eq_true_eq, bne_iff_ne, ne_eq, Int.natAbs_eq_zero]
  rw [h3, h4]
  rcases Int.lt_trichotomy x.num 0 with hx | hx | hx <;> rcases Int.lt_trichotomy y.num 0 with hy | hy | hy
  · have := Int.mul_pos_of_neg_of_neg hx hy; simp [hx, hy]; omega
  · simp [hy]
  · have := Int.mul_neg_of_neg_of_pos hx hy; have h7 : ¬ y.num < 0 := by omega
    exact ⟨fun _ => this, fun _ => ⟨by simp [hx, h7], by omega⟩⟩
  · simp [hx]
  · simp [hx]
  · simp [hx]
  · have := Int.mul_neg_of_pos_of_neg hx hy; have h7 : ¬ x.num < 0 := by omega
    exact ⟨fun _ => this, fun _ => ⟨by simp [hy, h7], by omega⟩⟩
  · simp [hy]
  · have := Int.mul_pos hx hy; have h7 : ¬ x.num < 0 := by omega
    have h8 : ¬ y.num < 0 := by omega
    simp [h7, h8]; omega
end Go.Proofs.YtkfcikijmkgahaaDoor
namespace Go.Proofs.YtkfcikijmkgahaaDoor
open Go.RowKit Tw
variable [ShLZ]
theorem ps_zero (x y : Bool) (u : Nat) : psS x y u 0 = x ∧ psN x y u 0 = u := by
  unfold psS psN; split <;> simp
theorem addV_zero (s1 : Bool) (n1 d1 : Nat) (s s' : Bool) (d2 : Nat) : addV s1 n1 d1 s 0 d2 = addV s1 n1 d1 s' 0 d2 := by
  unfold addV
  simp only [Nat.zero_mul, (ps_zero s1 s _).1, (ps_zero s1 s _).2, (ps_zero s1 s' _).1, (ps_zero s1 s' _).2]
theorem subV_rat (x y : Rat) : addV (decide (x.num < 0)) x.num.natAbs x.den (!decide (y.num < 0)) y.num.natAbs y.den = fracV (x - y) := by
  have hn : (-y).num = -y.num := Rat.neg_num y
  have hd : (-y).den = y.den := Rat.neg_den y
  have h := addV_rat x (-y)
  rw [hn, hd, Int.natAbs_neg, ← Rat.sub_eq_add_neg] at h
  rw [← h]
  by_cases h0 : y.num = 0
  · rw [h0]; exact addV_zero _ _ _ _ _ _
  · have hs : (!decide (y.num < 0)) = decide (-y.num < 0) := by
      by_cases h1 : y.num < 0
      · have h2 : ¬ (-y.num < 0) := by omega
        simp only [h1, h2, decide_true, decide_false, Bool.not_true]
      · have h2 : -y.num < 0 := by omega
        simp only [h1, h2, decide_true, decide_false, Bool.not_false]
    rw [hs]
theorem divV_rat (x y : Rat) (h0 : y.num ≠ 0) : mulV (decide (x.num < 0)) x.num.natAbs x.den (decide (y.num < 0)) y.den y.num.natAbs = fracV (x / y) := by
  have hn : (y⁻¹).num = y.num.sign * y.den := Rat.num_inv y
  have hd : (y⁻¹).den = y.num.natAbs := by rw [Rat.den_inv]; simp [h0]
  have h := mulV_rat x (y⁻¹)
  rw [hd, ← Rat.div_def] at h
  rw [← h, hn]
  have hp : 0 < (y.den : Int) := by have := y.den_pos; omega
  rcases Int.lt_trichotomy y.num 0 with hy | hy | hy
  · rw [Int.sign_eq_neg_one_of_neg hy]; congr 1
    · simp [hy]; omega
    · omega
  · exact absurd hy h0
  · rw [Int.sign_eq_one_of_pos hy]; congr 1
    · simp; omega
    · omega
end Go.Proofs.YtkfcikijmkgahaaDoor
namespace Go.Proofs.YtkfcikijmkgahaaDoor
open Go.RowKit Tw
variable [ShLZ]
variable [ShSt]
set_option maxRecDepth 100000 in
set_option maxHeartbeats 1000000 in
theorem ratioF_walk (x : Int) (y : Int) (s : Bool) (n d : Nat) (te : Int) (HR : Hid (∀ W, Calls Tryd.prog 29 #[.int .i64 x, .int .i64 y] W fun e w' => e = .returned (.tuple #[.agg (frcC s n d), .int .i64 te]) ∧ Below W.heap.size W w')) (w : World) :
    Calls Tryd.prog 27 #[.int .i64 x, .int .i64 y] w fun e w' => e = .returned (frc s n d) ∧ Below w.heap.size w w' := by
  unfold frc
  go_enter Tryd.func27, Tryd.ntmps27
  go_upto_region 1 with (fail)
  have hK := KS.one w (.cells (frcC false 0 0) 26)
  obtain ⟨W, hW⟩ : ∃ W, W = w.alloc (.cells (frcC false 0 0) 26) := ⟨_, rfl⟩
  rw [← hW] at hK
  rw [frc_zero] at hW
  rw [← hW]
  clear hW
  have HK := Lib.hid hK
  clear hK
  go_upto_region 2 with (first
    | ((go_at_call 29); (with_reducible refine (HR.out _).mono ?_); rintro e w1 ⟨rfl, hb1⟩; have HK1 := Lib.hid (HK.out.below hb1); clear hb1)
    | (refine wpList_stf (neg := s) (n := n) (d := d) (neg' := false) (n' := 0) (d' := 0) rfl rfl rfl rfl (by rw [frc_zero]; exact heap1 w1 _) size27 ?_))
  have HK2 := Lib.hid (HK1.out.newvar (cs := frcC false 0 0) (cs' := frcC s n d) (t := 26))
  have k_g := HK1.out.fresh.1
  rw [← frc_zero]
  generalize (w1.alloc (.cells (frcC false 0 0) 26)).setRow w1.heap.size (frcC s n d) = W2 at *
  generalize w1.heap.size = g at *
  clear HK1 HK
  go_wp2_with (first
    | (refine wpList_ldf rfl rfl rfl (HK2.out.2 _ (.head _)) Tryd.underlying26 rfl size27 ?_)
    | (refine wpList_stf (neg := s) (n := n) (d := d) (neg' := false) (n' := 0) (d' := 0) rfl rfl rfl rfl (HK2.out.2 _ (.tail _ (.head _))) size27 ?_))
  exact bodyPost_ret (res_cell rfl rfl (setRow_heap _ _ _ _ _ _ (HK2.out.2 _ (.tail _ (.head _)))) Tryd.underlying26 rfl (by rw [size27, frcC_size])) rfl ⟨rfl, below_setRow HK2.out.1 (by omega) _⟩
set_option maxRecDepth 100000 in
set_option maxHeartbeats 1000000 in
theorem Made_walk (x : Int) (y : Nat) (s : Bool) (n d : Nat) (te : Int) (hy : (y : Int) ≤ 4294967295) (HR : Hid (∀ W, Calls Tryd.prog 29 #[.int .i64 x, .int .i64 ((y : Int) + 1)] W fun e w' => e = .returned (.tuple #[.agg (frcC s n d), .int .i64 te]) ∧ Below W.heap.size W w')) (w : World) :
    Calls Tryd.prog 11 #[.int .i64 x, .int .u32 (y : Int)] w fun e w' => e = .returned (frc s n d) ∧ Below w.heap.size w w' := by
  unfold frc
  go_enter Tryd.func11, Tryd.ntmps11
  go_upto_region 1 with (fail)
  have hK := KS.one w (.cells (frcC false 0 0) 26)
  obtain ⟨W, hW⟩ : ∃ W, W = w.alloc (.cells (frcC false 0 0) 26) := ⟨_, rfl⟩
  rw [← hW] at hK
  rw [frc_zero] at hW
  rw [← hW]
  clear hW
  have HK := Lib.hid hK
  clear hK
  go_upto_region 2 with (first
    | ((go_at_call 29); (with_reducible refine (HR.out _).mono ?_); rintro e w1 ⟨rfl, hb1⟩; have HK1 := Lib.hid (HK.out.below hb1); clear hb1)
    | (refine wpList_stf (neg := s) (n := n) (d := d) (neg' := false) (n' := 0) (d' := 0) rfl rfl rfl rfl (by rw [frc_zero]; exact heap1 w1 _) size27 ?_))
  have HK2 := Lib.hid (HK1.out.newvar (cs := frcC false 0 0) (cs' := frcC s n d) (t := 26))
  have k_g := HK1.out.fresh.1
  rw [← frc_zero]
  generalize (w1.alloc (.cells (frcC false 0 0) 26)).setRow w1.heap.size (frcC s n d) = W2 at *
  generalize w1.heap.size = g at *
  clear HK1 HK
  go_wp2_with (first
    | (refine wpList_ldf rfl rfl rfl (HK2.out.2 _ (.head _)) Tryd.underlying26 rfl size27 ?_)
    | (refine wpList_stf (neg := s) (n := n) (d := d) (neg' := false) (n' := 0) (d' := 0) rfl rfl rfl rfl (HK2.out.2 _ (.tail _ (.head _))) size27 ?_))
  exact bodyPost_ret (res_cell rfl rfl (setRow_heap _ _ _ _ _ _ (HK2.out.2 _ (.tail _ (.head _)))) Tryd.underlying26 rfl (by rw [size27, frcC_size])) rfl ⟨rfl, below_setRow HK2.out.1 (by omega) _⟩
/-- the sign, the numerator, the denominator of a quotient of numbers -/
def qS (a b : Int) : Bool := decide (a ≠ 0) && (decide (a < 0) != decide (b < 0))
def qN (a b : Int) : Nat := a.natAbs / Nat.gcd a.natAbs b.natAbs
def qD (a b : Int) : Nat := b.natAbs / Nat.gcd a.natAbs b.natAbs
theorem ratioF_any (a b : Int) (a1 : -9223372036854775808 ≤ a) (a2 : a ≤ 9223372036854775807) (b1 : -9223372036854775808 ≤ b) (b2 : b ≤ 9223372036854775807) (hb : b ≠ 0) (w : World) :
    Calls Tryd.prog 27 #[.int .i64 a, .int .i64 b] w fun e w' => e = .returned (frc (qS a b) (qN a b) (qD a b)) ∧ Below w.heap.size w w' :=
  ratioF_walk a b _ _ _ 0 (fun W => ratio_any a b a1 a2 b1 b2 hb W) w
theorem Made_any (a : Int) (b : Nat) (a1 : -9223372036854775808 ≤ a) (a2 : a ≤ 9223372036854775807) (hb : b ≤ 4294967295) (w : World) :
    Calls Tryd.prog 11 #[.int .i64 a, .int .u32 (b : Int)] w fun e w' => e = .returned (frc (qS a (b + 1)) (qN a (b + 1)) (qD a (b + 1))) ∧ Below w.heap.size w w' :=
  Made_walk a b _ _ _ 0 (by omega) (fun W => ratio_any a (b + 1) a1 a2 (by omega) (by omega) (by omega) W) w
end Go.Proofs.YtkfcikijmkgahaaDoor
