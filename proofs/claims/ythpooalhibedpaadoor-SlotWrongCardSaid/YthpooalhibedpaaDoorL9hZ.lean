import Derived.Test.YthpooalhibedpaaDoorG05
import Derived.Test.YthpooalhibedpaaDoorG01
import Derived.Test.YthpooalhibedpaaDoorL9h01
/- SlotWrong: the law holds for every input; no condition but the row's own. -/
set_option linter.unusedVariables false
set_option linter.unusedSimpArgs false
set_option linter.unusedSectionVars false
/- Places that came in. -/
namespace Go.Proofs.YthpooalhibedpaaDoor
open Go.ChangeShapes Go.WideShapes Go.ChangeAt Go.RowKit Tw
open Go
theorem opens_pl : OpensC Tryd.prog 117 plC plOk := by
  intro H enc w base sp held fuel cs x h
  obtain ⟨hl, hf⟩ := trod_fld Tryd.underlying117 h
  have c1 : Tryd.prog.cellsOf 5 = 1 := by kernel_rfl
  have c2 : Tryd.prog.cellsOf 4 = 1 := by kernel_rfl
  have c6 : Tryd.prog.cellsOf 117 = 4 := by kernel_rfl
  rw [c6] at hl
  obtain ⟨v0, v1, v2, v3, rfl⟩ : ∃ v0 v1 v2 v3, cs = [v0, v1, v2, v3] := by
    rcases cs with _ | ⟨v0, _ | ⟨v1, _ | ⟨v2, _ | ⟨v3, _ | ⟨v4, cs⟩⟩⟩⟩⟩ <;> simp at hl
    exact ⟨v0, v1, v2, v3, rfl⟩
  have key : ∀ (i : Nat) (f : Field) (v : Value), (#[v0, v1, v2, v3] : Array Value)[i]? = some v → f.type = 5 → f.offset = i → (∃ n y, DataW.trod enc Tryd.prog w base sp held n f.type ((([v0, v1, v2, v3] : List Value).drop f.offset).take (Tryd.prog.cellsOf f.type)) = some y) → ∃ n : Nat, v = .int .u8 ((n : Nat) : Int) ∧ n ≤ 255 := by
    intro i f v hv ht ho ⟨n, y, hy⟩
    rw [ht, c1, ho] at hy
    obtain ⟨z, hz, hz1, hz2⟩ := fld_int (P := Tryd.prog) Tryd.underlying5 hy
    have hv2 : ([v0, v1, v2, v3] : List Value)[i]? = some v := by simpa using hv
    obtain ⟨hi, hvi⟩ := List.getElem?_eq_some_iff.1 hv2
    rw [List.drop_eq_getElem_cons hi, hvi] at hz
    have hz0 : v = .int .u8 z := by simpa using hz
    have m1 : IntKind.u8.min = 0 := by decide
    have m2 : IntKind.u8.max = 255 := by decide
    rw [m1] at hz1; rw [m2] at hz2
    exact ⟨z.toNat, by rw [hz0, Int.toNat_of_nonneg hz1], by omega⟩
  obtain ⟨n0, rfl, b0⟩ := key 0 _ v0 rfl rfl rfl (hf 0 _ rfl)
  obtain ⟨n1, rfl, b1⟩ := key 1 _ v1 rfl rfl rfl (hf 1 _ rfl)
  obtain ⟨n2, rfl, b2⟩ := key 2 _ v2 rfl rfl rfl (hf 2 _ rfl)
  obtain ⟨n, y, hy⟩ := hf 3 _ rfl
  obtain ⟨d, hd⟩ := fld_bool (P := Tryd.prog) Tryd.underlying4 hy
  have hd0 : v3 = .bool d := by
    have e : Tryd.prog.cellsOf 4 = 1 := c2
    have hd2 : (([.int .u8 ((n0 : Nat) : Int), .int .u8 ((n1 : Nat) : Int), .int .u8 ((n2 : Nat) : Int), v3] : List Value).drop 3).take (Tryd.prog.cellsOf 4) = [.bool d] := hd
    rw [e] at hd2
    simpa using hd2
  subst hd0
  exact ⟨⟨n0, n1, n2, d⟩, rfl, b0, b1, b2⟩
end Go.Proofs.YthpooalhibedpaaDoor
/- SlotWrong holds for every input: the program's own answer is true, wherever the listed variables are as the program's text lays them; each argument reads afterwards as it read before. -/
namespace Go.Proofs.YthpooalhibedpaaDoor
open Go.ChangeShapes Go.WideShapes Go.ChangeAt Go.RowKit Tw
set_option maxRecDepth 100000 in
theorem slotWrong_lifted (os : Os) (started : os.Started) (H : Type) (enc : TypeId × Value → H) :
    ReturnsInHanded {} Tryd.checked os 9 .any (fun w args => (Rows.slotWrongSpec.pre enc Tryd.prog Tryd.f9 Rows.slotWrongRow.domain false w args ∧ laidMetH Tryd.prog laidN w) ∧ sizedMet enc Tryd.prog Tryd.f9 (OpenSpec.ofChange Rows.slotWrongSpec) false w args) (Rows.slotWrongSpec.post enc Tryd.prog Tryd.f9 false true false false) := by
  refine handed_and_sized (C := Tryd.checked) (X := fun w => laidMetH Tryd.prog laidN w) (fun _ _ hh h => h.of_heap hh) own started (by kernel_rfl) Tryd.func9
    (ChangeSpec.witness_shaped (enc := enc) (C := Tryd.checked) (os := os) (X := fun w _ => laidMetH Tryd.prog laidN w) false (World.doorLaid Tryd.prog 1000 os) #[.slice none 0 0, .int .u32 0, .agg #[.int .i64 0, .int .i64 0, .int .u8 0], .int .i64 0, .int .u8 0] 8 rfl (World.shaped_of_RefB (by kernel_rfl) (by kernel_rfl)) (by kernel_rfl) (by kernel_rfl) (by kernel_rfl) (door_met os _)) ?_
  intro W base args ds gs before hval0 hW hL hsh hsz
  have hval : ∀ (j : Nat) t v, Tryd.f9.params[j]? = some t → args[j]? = some v → Value.okWide Tryd.prog W .any base t v := hval0
  have hW2 := hW
  obtain ⟨p, q, hA0, hV, rfl, hfz, hnd⟩ := hW2
  have hA : DataW.TrodAll enc Tryd.prog W 0 (fun _ => true) true Tryd.f9.params.toList args.toList ds p := hA0
  rw [Tryd.params9] at hA hval
  obtain ⟨v0, vs0, d0, ds0, p0, q0, hargs, rfl, rfl, h0, r0⟩ := trodAll_cons hA
  obtain ⟨v1, vs1, d1, ds1, p1, q1, rfl, rfl, rfl, h1, r1⟩ := trodAll_cons r0
  obtain ⟨v2, vs2, d2, ds2, p2, q2, rfl, rfl, rfl, h2, r2⟩ := trodAll_cons r1
  obtain ⟨v3, vs3, d3, ds3, p3, q3, rfl, rfl, rfl, h3, r3⟩ := trodAll_cons r2
  obtain ⟨v4, vs4, d4, ds4, p4, q4, rfl, rfl, rfl, h4, r4⟩ := trodAll_cons r3
  obtain ⟨rfl, rfl, rfl⟩ := trodAll_nil r4
  obtain rfl : args = #[v0, v1, v2, v3, v4] := by cases args; simp_all
  obtain ⟨rfl, rfl⟩ := trodVars_none hV
  have k0 := h0
  have lt0 : ∀ x ∈ p0, x.block < W.heap.size := by obtain ⟨m, hm⟩ := k0; exact DataW.trod_lt m _ _ _ hm
  obtain ⟨p0_, c0, l0, rfl, ok0⟩ := open_recsS (sz := 4) (by_ := 4) Tryd.underlying60 (OpensS.of opens_pl) (by kernel_rfl) (by omega) (fun _ => rfl) (by kernel_rfl) (hval 0 60 v0 rfl rfl) h0 (sized_par (j := 0) (t := 60) hsz rfl rfl)
  obtain ⟨a1, rfl, rfl, rfl, w1⟩ := open_int Tryd.underlying61 (hval 1 61 v1 rfl rfl) h1
  have rr1 : 0 ≤ a1 ∧ a1 ≤ 4294967295 := of_wf w1
  obtain ⟨n1, rfl⟩ : ∃ n : Nat, a1 = (n : Int) := ⟨a1.toNat, by omega⟩
  have k2 := h2
  have lt2 : ∀ x ∈ p2, x.block < W.heap.size := by obtain ⟨m, hm⟩ := k2; exact DataW.trod_lt m _ _ _ hm
  obtain ⟨y2, rfl, ok2⟩ := open_recS Tryd.underlying34 (OpensS.of opens_slt) (hval 2 34 v2 rfl rfl) h2 (sized_par (j := 2) (t := 34) hsz rfl rfl)
  obtain ⟨a3, rfl, rfl, rfl, w3⟩ := open_int Tryd.underlying3 (hval 3 3 v3 rfl rfl) h3
  have rr3 : -9223372036854775808 ≤ a3 ∧ a3 ≤ 9223372036854775807 := of_wf w3
  obtain ⟨a4, rfl, rfl, rfl, w4⟩ := open_int Tryd.underlying5 (hval 4 5 v4 rfl rfl) h4
  have rr4 : 0 ≤ a4 ∧ a4 ≤ 255 := of_wf w4
  obtain ⟨n4, rfl⟩ : ∃ n : Nat, a4 = (n : Int) := ⟨a4.toNat, by omega⟩
  clear hA0 hval0
  have hby : (UInt8.ofNat n4).toNat = n4 := by rw [UInt8.toNat_ofNat']; exact Nat.mod_eq_of_lt (by omega)
  have h9 := (SlotWrong_any l0 p0_ c0 n1 (Nat.le_trans ok0.1.2.2.1 (by unfold maxLen; omega)) ok0.1.2.2.2 ok0.1.2.1 (by omega) y2 ok2.2.2 a3 (UInt8.ofNat n4) W ok0.1.1 (env_of hL))
  rw [hby] at h9
  refine h9.mono fun e W' ⟨he, bel⟩ => ?_
  subst he
  exact ⟨_, rfl, _, _, _, [], _, [], hW, (trodAll_cons_mk (shut_bool Tryd.underlying4 _) trodAll_mk0), (trodAll_cons_mk (Below.trod laidOut (by kernel_rfl) (of_decide_eq_true (by kernel_rfl)) k0 bel lt0) (trodAll_cons_mk (shut_int Tryd.underlying61 w1) (trodAll_cons_mk (Below.trod laidOut (by kernel_rfl) (of_decide_eq_true (by kernel_rfl)) k2 bel lt2) (trodAll_cons_mk (shut_int Tryd.underlying3 w3) (trodAll_cons_mk (shut_int Tryd.underlying5 w4) trodAll_mk0))))), rfl, bel.frame _, fun h => by cases h⟩
theorem slotWrong_said : Rows.SlotWrongSaid :=
  OpenClaim.holds_of_wide 9 Tryd.f9 rfl rfl rfl rfl rfl rfl rfl ⟨rfl, rfl, rfl, rfl, rfl⟩ rfl rfl rfl rfl rfl (by kernel_rfl) Tryd.func9 (by kernel_rfl)
    (of_decide_eq_true (by kernel_rfl)) (by unfold Func.isWrapper; first | (rw [if_pos (by decide +kernel)]; kernel_rfl) | (rw [if_neg (by decide +kernel)]; exact ⟨rfl, rfl⟩))
    (fun os started H enc _ => slotWrong_lifted os started H enc)
theorem slotWrong_proved : Rows.SlotWrongCardSaid :=
  Claim7.holds_tied_plain_at .later [] [.data] true Rows.slotWrongCard.stood.harness Rows.slotWrongCard.stood.looks
    slotWrong_said (fun _ h => by cases h) (by kernel_rfl) (fun _ h => by cases h) slotWrong_row_tie rfl ⟨rfl, rfl⟩ (by kernel_rfl) rfl
    (fun f fn hf hfn => by
      obtain rfl : f = 9 := Option.some.inj ((show Tryd.prog.funcNamed "twistlock/twistlocklaw08.SlotWrong" = some 9 by kernel_rfl).symm.trans hf) |>.symm
      obtain rfl : fn = Tryd.f9 := (Option.some.inj (Tryd.func9.symm.trans hfn)).symm
      exact ⟨by kernel_rfl, fun j t ht => by
        rw [Tryd.params9] at ht
        have hm : t ∈ [60, 61, 34, 3, 5] := by simpa using Array.mem_of_getElem? ht
        have hall : ([60, 61, 34, 3, 5].all fun u => !Tryd.prog.wantsStandIn u) = true := by kernel_rfl
        exact (show Tryd.prog.wantsStandIn t = false by simpa using List.all_eq_true.1 hall t hm)⟩)
    (by kernel_rfl)
#print axioms slotWrong_proved
end Go.Proofs.YthpooalhibedpaaDoor
