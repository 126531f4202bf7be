import Derived.Test.YtkfcikijmkgahaaDoorG13
import Derived.Test.YtkfcikijmkgahaaDoorG02
import Derived.Deep.Cut
/- Part of the proof: Ps. -/
set_option linter.unusedVariables false
set_option linter.unusedSimpArgs false
set_option linter.unusedSectionVars false
namespace Go.Proofs.YtkfcikijmkgahaaDoor
open Go.RowKit Tw
/-- numbers with signs, added -/
def psS (x y : Bool) (a b : Nat) : Bool := if x = y then x else if a < b then y else x
def psN (x y : Bool) (a b : Nat) : Nat := if x = y then a + b else if a < b then b - a else a - b

set_option maxRecDepth 100000 in
set_option maxHeartbeats 1000000 in
theorem plusSigned_any (x y : Bool) (a b : Nat) (hab : a + b < R 18) (w : World) :
    Calls Tryd.prog 34 #[.bool x, wid a, .bool y, wid b] w fun e w' => e = .returned (.tuple #[.bool (psS x y a b), wid (psN x y a b)]) ∧ Below w.heap.size w w' := by
  have ha : a < R 18 := by omega
  have hb : b < R 18 := by omega
  unfold wid
  go_enter Tryd.func34, Tryd.ntmps34
  go_upto_region 1 with (fail)
  have hK := KS.three w (.cells (fa 18 (dg a)) 59) (.cells (fa 18 (dg b)) 59) (.cells (fa 18 (fun _ => 0)) 59)
  obtain ⟨W, hW⟩ : ∃ W, W = ((w.alloc (.cells (fa 18 (dg a)) 59)).alloc (.cells (fa 18 (dg b)) 59)).alloc (.cells (fa 18 (fun _ => 0)) 59) := ⟨_, rfl⟩
  rw [← hW] at hK
  rw [fa_zero18] at hW
  rw [← hW]
  clear hW
  have HK := Lib.hid hK
  clear hK
  have HN := Lib.hid (⟨hab, ha, hb⟩ : a + b < R 18 ∧ a < R 18 ∧ b < R 18)
  clear hab ha hb
  have hcmp : (a < b ∧ cmpN a b = -1) ∨ (¬ a < b ∧ b ≤ a ∧ (cmpN a b = 0 ∨ cmpN a b = 1)) := by
    unfold cmpN; split
    · exact .inl ⟨by assumption, rfl⟩
    · refine .inr ⟨by assumption, by omega, ?_⟩
      split
      · exact .inr rfl
      · exact .inl rfl
  have HC := Lib.hid hcmp
  clear hcmp
  by_cases hxy : x = y
  · have HV := Lib.hid (show psS x y a b = x ∧ psN x y a b = a + b from ⟨if_pos hxy, if_pos hxy⟩)
    have hbe : (x == y) = true := by simp [hxy]
    clear hxy
    go_wp2_with (first
      | (refine wpList_lda rfl rfl rfl (HK.out.2 _ (.head _)) Tryd.underlying59 rfl size65 ?_)
      | (refine wpList_lda rfl rfl rfl (HK.out.2 _ (.tail _ (.head _))) Tryd.underlying59 rfl size65 ?_)
      | (go_at_call 38; refine (plus_any a b HN.out.2.1 HN.out.2.2 HN.out.1 _).mono ?_; rintro e w1 ⟨rfl, hb1⟩; have HK2 := Lib.hid (HK.out.below hb1); clear hb1; unfold wid)
      | (refine wpList_sta (f := dg (a + b)) (f' := fun _ => 0) rfl rfl rfl rfl (HK2.out.2 _ (.tail _ (.tail _ (.head _)))) size65 ?_))
    refine bodyPost_ret (res_tmp_cell rfl rfl (setRow_heap _ _ _ _ _ _ (HK2.out.2 _ (.tail _ (.tail _ (.head _))))) Tryd.underlying59 rfl (by rw [size65, fa_size])) rfl ⟨?_, below_setRow HK2.out.1 (by omega) _⟩
    rw [HV.out.1, HV.out.2]; rfl
  · have hbe : (x == y) = false := by simp [hxy]
    have HX := Lib.hid hxy
    clear hxy
    have HV := Lib.hid (show (a < b → psS x y a b = y ∧ psN x y a b = b - a) ∧ (¬ a < b → psS x y a b = x ∧ psN x y a b = a - b) from
      ⟨fun h => ⟨by rw [psS, if_neg HX.out, if_pos h], by rw [psN, if_neg HX.out, if_pos h]⟩, fun h => ⟨by rw [psS, if_neg HX.out, if_neg h], by rw [psN, if_neg HX.out, if_neg h]⟩⟩)
    rcases HC.out with ⟨h1, h2⟩ | ⟨h1, h2, h3⟩
    · obtain ⟨v1, v2⟩ := HV.out.1 h1
      have V1 := Lib.hid v1
      have V2 := Lib.hid v2
      have H1 := Lib.hid h1
      clear HC HV v1 v2 h1
      go_wp2_with (first
        | (refine wpList_lda rfl rfl rfl (HK.out.2 _ (.head _)) Tryd.underlying59 rfl size65 ?_)
        | (refine wpList_lda rfl rfl rfl (HK.out.2 _ (.tail _ (.head _))) Tryd.underlying59 rfl size65 ?_)
        | (go_at_call 57; refine (compare_any a b HN.out.2.1 HN.out.2.2 _).mono ?_; rintro e w1 ⟨rfl, hb1⟩; have HK2 := Lib.hid (HK.out.below hb1); clear hb1; rw [h2])
        | (refine wpList_lda rfl rfl rfl (HK2.out.2 _ (.head _)) Tryd.underlying59 rfl size65 ?_)
        | (refine wpList_lda rfl rfl rfl (HK2.out.2 _ (.tail _ (.head _))) Tryd.underlying59 rfl size65 ?_)
        | (go_at_call 58; refine (minus_any b a HN.out.2.2 (Nat.le_of_lt H1.out) _).mono ?_; rintro e w2 ⟨rfl, hb1⟩; have HK3 := Lib.hid (HK2.out.below hb1); clear hb1; unfold wid)
        | (refine wpList_sta (f := dg (b - a)) (f' := fun _ => 0) rfl rfl rfl rfl (HK3.out.2 _ (.tail _ (.tail _ (.head _)))) size65 ?_))
      refine bodyPost_ret (res_tmp_cell rfl rfl (setRow_heap _ _ _ _ _ _ (HK3.out.2 _ (.tail _ (.tail _ (.head _))))) Tryd.underlying59 rfl (by rw [size65, fa_size])) rfl ⟨?_, below_setRow HK3.out.1 (by omega) _⟩
      rw [V1.out, V2.out]; rfl
    · obtain ⟨v1, v2⟩ := HV.out.2 h1
      have V1 := Lib.hid v1
      have V2 := Lib.hid v2
      have H1 := Lib.hid h2
      clear HC HV v1 v2 h1 h2
      rcases h3 with h3 | h3
      all_goals
        go_wp2_with (first
          | (refine wpList_lda rfl rfl rfl (HK.out.2 _ (.head _)) Tryd.underlying59 rfl size65 ?_)
          | (refine wpList_lda rfl rfl rfl (HK.out.2 _ (.tail _ (.head _))) Tryd.underlying59 rfl size65 ?_)
          | (go_at_call 57; refine (compare_any a b HN.out.2.1 HN.out.2.2 _).mono ?_; rintro e w1 ⟨rfl, hb1⟩; have HK2 := Lib.hid (HK.out.below hb1); clear hb1; rw [h3])
          | (refine wpList_lda rfl rfl rfl (HK2.out.2 _ (.head _)) Tryd.underlying59 rfl size65 ?_)
          | (refine wpList_lda rfl rfl rfl (HK2.out.2 _ (.tail _ (.head _))) Tryd.underlying59 rfl size65 ?_)
          | (go_at_call 58; refine (minus_any a b HN.out.2.1 H1.out _).mono ?_; rintro e w2 ⟨rfl, hb1⟩; have HK3 := Lib.hid (HK2.out.below hb1); clear hb1; unfold wid)
          | (refine wpList_sta (f := dg (a - b)) (f' := fun _ => 0) rfl rfl rfl rfl (HK3.out.2 _ (.tail _ (.tail _ (.head _)))) size65 ?_))
        refine bodyPost_ret (res_tmp_cell rfl rfl (setRow_heap _ _ _ _ _ _ (HK3.out.2 _ (.tail _ (.tail _ (.head _))))) Tryd.underlying59 rfl (by rw [size65, fa_size])) rfl ⟨?_, below_setRow HK3.out.1 (by omega) _⟩
        rw [V1.out, V2.out]; rfl
end Go.Proofs.YtkfcikijmkgahaaDoor
