import Derived.Test.YtkfcikijmkgahaaDoorG19
import Derived.Test.YtkfcikijmkgahaaDoorG02
import Derived.Test.YtkfcikijmkgahaaDoorG07
import Derived.Test.YtkfcikijmkgahaaDoorG05
import Derived.Test.YtkfcikijmkgahaaDoorG06
import Derived.Deep.Cut
/- Part of the proof: Fm, Dg, Tp, Pa. -/
set_option linter.unusedVariables false
set_option linter.unusedSimpArgs false
set_option linter.unusedSectionVars false
namespace Go.Proofs.YtkfcikijmkgahaaDoor
open Go.RowKit Tw
variable [ShLZ]
set_option maxRecDepth 100000 in
theorem floor_not (s : Bool) (n d : Nat) (hn : n < R 8) (hd : d < R 8) (hr : rightB s n d = false) (w : World) :
    Calls Tryd.prog 19 #[frc s n d] w fun e w' => e = .returned (.tuple #[.int .i64 0, .int .i64 2]) ∧ Below w.heap.size w w' := by
  have HR : Hid (∀ W, Calls Tryd.prog 24 #[.agg (frcC s n d)] W fun e w' => e = .returned (.bool false) ∧ Below W.heap.size W w') := fun W => by
    have := right_any s n d hn hd W
    rw [hr] at this
    exact this
  clear hr hn hd
  unfold frc
  go_enter Tryd.func19, Tryd.ntmps19
  go_upto_region 1 with (fail)
  have hK := KS.one w (.cells (frcC s n d) 26)
  obtain ⟨W, hW⟩ : ∃ W, W = w.alloc (.cells (frcC s n d) 26) := ⟨_, rfl⟩
  rw [← hW] at hK
  rw [← hW]
  clear hW
  have HK := Lib.hid hK
  clear hK
  go_wp2_with (first
    | (refine wpList_ldf rfl rfl rfl (HK.out.2 _ (.head _)) Tryd.underlying26 rfl size27 ?_)
    | ((go_at_call 24); (with_reducible refine (HR.out _).mono ?_); rintro e w1 ⟨rfl, hb1⟩; have HK1 := Lib.hid (HK.out.below hb1); clear hb1))
  exact bodyPost_ret (res_tmp_tmp rfl) rfl ⟨rfl, HK1.out.1⟩
/-- the whole part -/
def floorQ (s : Bool) (n d : Nat) : Nat := if s = true ∧ ¬ n % d = 0 then n / d + 1 else n / d
def floorV (s : Bool) (n d : Nat) : Value := if floorQ s n d < 9223372036854775808 ∨ (floorQ s n d = 9223372036854775808 ∧ s = true) then .tuple #[.int .i64 (sg s (floorQ s n d)), .int .i64 0] else .tuple #[.int .i64 0, .int .i64 3]
set_option maxRecDepth 100000 in
theorem floor_any (s : Bool) (n d : Nat) (hn : n < R 8) (hd : d < R 8) (w : World) :
    Calls Tryd.prog 19 #[frc s n d] w fun e w' => e = .returned (if rightB s n d = true then floorV s n d else .tuple #[.int .i64 0, .int .i64 2]) ∧ Below w.heap.size w w' := by
  by_cases hr : rightB s n d = true
  · rw [if_pos hr]
    have hd0 : 0 < d := Nat.pos_of_ne_zero fun h => by have := right_den hr; omega
    have hq : n / d < R 8 := Nat.lt_of_le_of_lt (Nat.div_le_self _ _) hn
    have hq9 : R 8 + 1 ≤ R 18 := by
      have h1 := R_le (show 9 ≤ 18 by omega)
      have h2 := R_pos 8
      rw [R_succ] at h1
      omega
    have HX : Hid (n < R 8 ∧ n < R 17 ∧ d < R 8 ∧ 0 < d ∧ n / d < R 18 ∧ n % d < R 8) :=
      ⟨hn, lt_R_of_le hn (by omega), hd, hd0, lt_R_of_le hq (by omega), Nat.lt_trans (Nat.mod_lt _ hd0) hd⟩
    have HQ8 : n / d + 1 < R 18 := by omega
    have HR : Hid (∀ W, Calls Tryd.prog 24 #[.agg (frcC s n d)] W fun e w' => e = .returned (.bool true) ∧ Below W.heap.size W w') := fun W => by
      have := right_any s n d hn hd W
      rw [hr] at this
      exact this
    have hval : ∀ Q : Nat, Q < R 18 → ∀ f, f = dg Q 1 * 4294967296 + dg Q 0 →
        (decide ((2 : Int) < ((ln (dg Q) 18 : Nat) : Int)) = true ∨ decide ((9223372036854775808 : Int) < (f : Int)) = true ↔ 9223372036854775808 < Q) ∧ (¬ 9223372036854775808 < Q → f = Q) := by
      intro Q hQ f hf
      rw [low_two] at hf
      simp only [decide_eq_true_eq]
      rcases Nat.lt_or_ge Q 18446744073709551616 with h | h
      · have := ln_le_two h
        rw [Nat.mod_eq_of_lt h] at hf
        subst hf
        exact ⟨⟨fun h => by omega, fun h => by omega⟩, fun _ => rfl⟩
      · have : ¬ ln (dg Q) 18 ≤ 2 := fun h2 => by have := (ln_two hQ h2).2; omega
        exact ⟨⟨fun _ => by omega, fun _ => .inl (by omega)⟩, fun h3 => by omega⟩
    have wr : ∀ f : Nat, ¬ 9223372036854775808 < f → wrap64 (-wrap64 (f : Int)) = -(f : Int) := fun f hf => by unfold wrap64; omega
    have wr' : ∀ f : Nat, ¬ 9223372036854775808 ≤ f → wrap64 (f : Int) = (f : Int) := fun f hf => by unfold wrap64; omega
    cases s
    · have hQ : floorQ false n d = n / d := by simp [floorQ]
      have hv := hval (n / d) HX.2.2.2.2.1 _ rfl
      refine floor_pos n d (n / d) _ _ _ _ _ HX HR rfl HQ8 rfl trivial rfl rfl rfl ?_ w
      unfold floorV Hid
      rw [hQ]
      by_cases hb : 9223372036854775808 < n / d
      · rw [if_pos ((hv.1.2 hb).imp id .inl), if_neg (by omega)]
      · have hf := hv.2 hb
        by_cases he : n / d = 9223372036854775808
        · rw [if_neg (show ¬ (n / d < 9223372036854775808 ∨ (n / d = 9223372036854775808 ∧ false = true)) by simp; omega), if_pos (.inr (.inr (by rw [hf, he]; rfl)))]
        · rw [if_pos (show n / d < 9223372036854775808 ∨ (n / d = 9223372036854775808 ∧ false = true) by omega), if_neg, hf, wr' _ (by omega)]
          · rfl
          · intro h
            rcases h with h | h | h
            · exact hb (hv.1.1 (.inl h))
            · exact hb (hv.1.1 (.inr h))
            · rw [hf] at h
              simp at h
              omega
    · by_cases hm : n % d = 0
      · have hQ : floorQ true n d = n / d := by simp [floorQ, hm]
        have hv := hval (n / d) HX.2.2.2.2.1 _ rfl
        refine floor_negz n d (n / d) _ _ _ _ _ HX HR rfl HQ8 rfl hm rfl rfl rfl ?_ w
        unfold floorV Hid
        rw [hQ]
        by_cases hb : 9223372036854775808 < n / d
        · rw [if_pos (hv.1.2 hb), if_neg (by omega)]
        · rw [if_neg (fun h => hb (hv.1.1 h)), if_pos (by simp; omega), hv.2 hb, wr _ hb]
          rfl
      · have hQ : floorQ true n d = n / d + 1 := by simp [floorQ, hm]
        have hv := hval (n / d + 1) HQ8 _ rfl
        refine floor_neg n d (n / d + 1) _ _ _ _ _ HX HR rfl HQ8 rfl hm rfl rfl rfl ?_ w
        unfold floorV Hid
        rw [hQ]
        by_cases hb : 9223372036854775808 < n / d + 1
        · rw [if_pos (hv.1.2 hb), if_neg (by omega)]
        · rw [if_neg (fun h => hb (hv.1.1 h)), if_pos (by simp; omega), hv.2 hb, wr _ hb]
          rfl
  · rw [if_neg hr]
    exact floor_not s n d hn hd (by simpa using hr) w
end Go.Proofs.YtkfcikijmkgahaaDoor
namespace Go.Proofs.YtkfcikijmkgahaaDoor
open Go.RowKit Tw
def isDig (b : UInt8) : Bool := decide (48 ≤ b.toNat) && decide (b.toNat ≤ 57)
/-- decimal digits without leading zeros -/
def digL (l : List UInt8) : Bool := l.all isDig && (l == [48] || (!l.isEmpty && (l.headD 0).toNat != 48))
theorem ret_bool' {a b : Bool} (h : a = b) : Ending.returned (.bool a) = .returned (.bool b) := by rw [h]
theorem get_list (s : ByteArray) (k : Nat) (h : k < s.size) : s.toList[k]? = some s[k] := by
  rw [ByteArray.toList_eq]
  have h' : k < s.data.size := h
  rw [Array.getElem?_toList, Array.getElem?_eq_getElem h']
  rfl
theorem len_list (s : ByteArray) : s.toList.length = s.size := by rw [ByteArray.toList_eq]; rfl

set_option maxRecDepth 100000 in
set_option maxHeartbeats 400000 in
theorem digits_any (s : ByteArray) (hs : s.size < 4611686018427387904) (w : World) :
    Calls Tryd.prog 44 #[.string s] w fun e w' => e = .returned (.bool (digL s.toList)) ∧ Below w.heap.size w w' := by
  go_enter Tryd.func44, Tryd.ntmps44
  go_wp2
  go_loopw [6] (fun i wr => ∃ k : Nat, k ≤ s.size ∧ (∀ (j : Nat) (b : UInt8), j < k → s.toList[j]? = some b → isDig b = true) ∧ i = .int .i64 k ∧ Below w.heap.size w wr)
    (fun i _ => (s.size - intOf i).toNat)
  case atStart => exact ⟨0, by omega, fun j b hj => by omega, rfl, Below.refl _ _⟩
  case round =>
    obtain ⟨k, hk, hd, rfl, hB⟩ := hrel
    rcases Nat.lt_or_ge k s.size with h | h
    · have h1 : (k : Int) < (s.size : Int) := by omega
      have HD := Lib.hid hd
      have HG := Lib.hid (get_list s k h)
      clear hd
      have hno : isDig s[k] = false → digL s.toList = false := fun hi => by
        have hm : s[k] ∈ s.toList := List.mem_of_getElem? HG.out
        have : s.toList.all isDig = false := by
          rw [Bool.eq_false_iff]; intro ha
          rw [List.all_eq_true] at ha
          rw [ha _ hm] at hi; cases hi
        rw [digL, this]; rfl
      have HNO := Lib.hid hno
      clear hno
      by_cases c1 : (s[k].toNat : Int) < 48
      · go_wp2
        go_ret
        exact ⟨ret_bool' (by rw [HNO.out (by unfold isDig; simp; omega)]), hB⟩
      · by_cases c2 : (57 : Int) < (s[k].toNat : Int)
        · go_wp2
          go_ret
          exact ⟨ret_bool' (by rw [HNO.out (by unfold isDig; simp; omega)]), hB⟩
        · go_wp2
          go_roundw
          case rel =>
            refine ⟨k + 1, by omega, fun j b hj hb => ?_, rfl, hB⟩
            rcases Nat.lt_or_ge j k with hjk | hjk
            · exact HD.out j b hjk hb
            · obtain rfl : j = k := by omega
              rw [HG.out] at hb
              cases hb
              unfold isDig
              simp
              omega
          case measure => simp only [intOf]; omega
    · have h1 : ¬ (k : Int) < (s.size : Int) := by omega
      have ha : s.toList.all isDig = true := by
        rw [List.all_eq_true]
        intro b hb
        obtain ⟨j, hj⟩ := List.getElem?_of_mem hb
        have := (List.getElem?_eq_some_iff.1 hj).1
        rw [len_list] at this
        exact hd j b (by omega) hj
      have HA := Lib.hid (show digL s.toList = (s.toList == [48] || (!s.toList.isEmpty && (s.toList.headD 0).toNat != 48)) by rw [digL, ha]; rfl)
      clear ha hd
      have HL := Lib.hid (len_list s)
      rcases Nat.eq_zero_or_pos s.size with h0 | h0
      · have hl : s.toList = [] := List.eq_nil_of_length_eq_zero (by rw [HL.out, h0])
        have HE := Lib.hid hl
        have hb : (s.toList == [48]) = false := by rw [hl]; rfl
        have he : s.toList.isEmpty = true := by rw [hl]; rfl
        clear hl
        go_wp2
        go_ret
        exact ⟨ret_bool' (by rw [HA.out, HE.out]; rfl), hB⟩
      · have hp : (0 : Int) < (s.size : Int) := by omega
        have he : s.toList.isEmpty = false := by
          cases hc : s.toList with
          | nil => have := HL.out; rw [hc] at this; simp at this; omega
          | cons x l => rfl
        have HH := Lib.hid (show s.toList.headD 0 = s[0] by
          have := get_list s 0 h0
          cases hc : s.toList with
          | nil => rw [hc] at he; cases he
          | cons x l => rw [hc] at this; simpa using this)
        have HE := Lib.hid he
        rcases hb : (s.toList == [48]) with _ | _
        · go_wp2
          go_ret
          exact ⟨ret_bool' (by rw [HA.out, hb, HE.out, HH.out]; simp; try (rw [Bool.eq_iff_iff]; simp; try omega)), hB⟩
        · go_wp2
          go_ret
          exact ⟨ret_bool' (by rw [HA.out, hb]; rfl), hB⟩
end Go.Proofs.YtkfcikijmkgahaaDoor
namespace Go.Proofs.YtkfcikijmkgahaaDoor
open Go.RowKit Tw

set_option maxRecDepth 100000 in
set_option maxHeartbeats 1000000 in
theorem timesPlus_any (a x y : Nat) (ha : a < R 18) (hx : x < 4294967296) (hy : y < 4294967296) (hr : a * x + y < R 18) (w : World) :
    Calls Tryd.prog 64 #[wid a, .int .u32 x, .int .u32 y] w fun e w' => e = .returned (wid (a * x + y)) ∧ Below w.heap.size w w' := by
  unfold wid
  go_enter Tryd.func64, Tryd.ntmps64
  go_wp2
  go_loopw [7, 12] (fun c i wr => ∃ k c0 P : Nat, k ≤ 18 ∧ c0 < 4294967296 ∧ Hid (P + c0 * R k = (a % R k) * x + y + a / R k * R k) ∧ Hid (P / R k = a / R k) ∧ P < R 18 ∧ c = .int .u64 c0 ∧ i = .int .i64 k ∧ Below w.heap.size w wr ∧
      wr.heap[w.heap.size]? = some (.cells (fa 18 (dg P)) 59 (0, 0)) ∧ wr.heap[w.heap.size + 1]? = some (.cells (fa 18 (fun _ => 0)) 59 (0, 0)))
    (fun _ i _ => 18 - (intOf i).toNat)
  case atStart =>
    refine ⟨0, y, a, by omega, hy, ?_, rfl, ha, rfl, rfl, below2 _ _ _, (heap2 _ _ _).1, (heap2 _ _ _).2⟩
    unfold Hid; rw [R_zero, Nat.mod_one, Nat.zero_mul, Nat.div_one]; omega
  case round =>
    obtain ⟨k, c0, P, hk, hc, he, hd, hP, rfl, rfl, hB, e0, e1⟩ := hrel
    by_cases hlt : k < 18
    · have h1 := blk_cell e0 hlt
      have h3 : wr.frozen? ⟨w.heap.size, k, none⟩ = false := blk_free e0
      have b1 := dg_lt P k
      obtain ⟨b4, b5⟩ := mulbd b1 hx
      have hlt' : ((k : Nat) : Int) < 18 := by omega
      have E0 := Lib.hid e0
      have E1 := Lib.hid e1
      clear e0 e1
      go_wp2
      go_roundw
      case rel =>
        obtain ⟨t, ht⟩ : ∃ t, t = dg P k * x + c0 := ⟨_, rfl⟩
        have e : (dg P k : Int) * x + c0 = (t : Int) := by rw [ht]; simp
        have hb := fits64 b1 hx hc (show 0 < 4294967296 by omega)
        have hda : dg P k = dg a k := by unfold dg; rw [hd.out]
        have hv : t % 4294967296 < 4294967296 := Nat.mod_lt _ (by omega)
        rw [e, show (t : Int) % 4294967296 = ((t % 4294967296 : Nat) : Int) from by omega]
        refine ⟨k + 1, t / 4294967296, setd P k (t % 4294967296), by omega, by omega, ?_, ?_, setd_lt hP hlt hv, ?_, by go_num, ?_, ?_, ?_⟩
        · exact scale_step he.out hda (by omega)
        · unfold Hid; rw [setd_div _ _ _ hv]
          have h1 := div_succ P k
          have h2 := div_succ a k
          have h3 := hd.out
          omega
        · exact congrArg (Value.int .u64) (by omega)
        · exact hB.setCell (Nat.le_refl _) _
        · exact blk_set E0.out hlt hv
        · rw [heap_setCell_other _ _ _ _ (by simp)]; exact E1.out
      case measure => (simp [intOf] <;> omega)
    · obtain rfl : k = 18 := by omega
      have hfin : P = a * x + y := by
        have h := he.out
        rw [Nat.mod_eq_of_lt ha, Nat.div_eq_of_lt ha] at h
        have h0 := R_pos 18
        rcases Nat.eq_zero_or_pos c0 with h1 | h1
        · subst h1; omega
        · have : 1 * R 18 ≤ c0 * R 18 := Nat.mul_le_mul_right _ h1
          omega
      have E1 := Lib.hid e1
      subst hfin
      obtain ⟨d, hu, hdd⟩ := under65
      clear e1 he
      go_wp2_with (first
        | (refine wpList_lda rfl rfl rfl e0 hu hdd size65 ?_)
        | (refine wpList_sta rfl rfl rfl rfl E1.out size65 ?_))
      exact bodyPost_ret (res_cell rfl rfl (setRow_heap _ _ _ _ _ _ E1.out) hu hdd (by rw [size65, fa_size])) rfl ⟨rfl, below_setRow hB (by omega) _⟩
end Go.Proofs.YtkfcikijmkgahaaDoor
namespace Go.Proofs.YtkfcikijmkgahaaDoor
open Go.RowKit Tw
/-- the number of decimal digits -/
def decV (l : List UInt8) : Nat := l.foldl (fun a b => a * 10 + (b.toNat - 48)) 0
theorem decV_take {l : List UInt8} {k : Nat} {b : UInt8} (h : l[k]? = some b) : decV (l.take (k + 1)) = decV (l.take k) * 10 + (b.toNat - 48) := by
  unfold decV
  rw [List.take_add_one, h, List.foldl_append]
  rfl
theorem decV_lt : ∀ (k : Nat) (l : List UInt8), l.all isDig = true → decV (l.take k) < 10 ^ k
  | 0, l, _ => by simp [decV]
  | k + 1, l, h => by
    have ih := decV_lt k l h
    cases hb : l[k]? with
    | none =>
      have : l.take (k + 1) = l.take k := by rw [List.take_add_one, hb]; simp
      rw [this, Nat.pow_succ]; omega
    | some b =>
      rw [decV_take hb, Nat.pow_succ]
      have := List.all_eq_true.1 h b (List.mem_of_getElem? hb)
      unfold isDig at this
      simp at this
      omega
theorem ten78 : 10 ^ 78 < R 9 := by unfold R; decide
theorem run_idx {o : Oper} {a : Act} {x y : Operand} {s : ByteArray} {k : Nat} (ho : o.op = .index 9 x y) (hx : a.eval x = .string s) (hy : a.eval y = .int .i64 (k : Int)) (h : k < s.size) (w : World) :
    (execOp a.eval o).run Tryd.prog w = .ok (.value (.int .u8 ((s[k].toNat : Nat) : Int))) w := by
  have h1 : (k : Int) < (s.size : Int) := by omega
  unfold execOp
  rw [ho]
  simp only [hx, hy]
  go_simp
theorem run_sub48 {c : Nat} {x y : Operand} (w : World) (h : 48 ≤ c ∧ c ≤ 57) : (do eqGuard .sub 5 x y (.int .u8 (c : Int)) (.int .u8 48); binOp .sub 5 (.int .u8 (c : Int)) (.int .u8 48) : Sem Value).run Tryd.prog w = .ok (.int .u8 ((c - 48 : Nat) : Int)) w := by
  go_simp
  have e : ((c : Int) - 48) % 256 = ((c - 48 : Nat) : Int) := by omega
  first | exact e | (simp only [IntKind.wrap_u8]; exact congrArg (fun z => Result.ok (Value.int .u8 z) w) e) | (rw [show IntKind.u8.wrap ((c : Int) - 48) = ((c - 48 : Nat) : Int) from by simp only [IntKind.wrap_u8]; exact e])
theorem run_cv {o : Oper} {a : Act} {x : Operand} {c : Nat} (ho : o.op = .convert 5 22 x) (hx : a.eval x = .int .u8 ((c - 48 : Nat) : Int)) (h : 48 ≤ c ∧ c ≤ 57) (w : World) :
    (execOp a.eval o).run Tryd.prog w = .ok (.value (.int .u32 ((c - 48 : Nat) : Int))) w := by
  unfold execOp
  rw [ho]
  simp only [hx]
  go_simp
  first | done | omega | (simp only [IntKind.wrap_u32]; omega)
/-- what parse answers -/
def parseV (l : List UInt8) : Value := if l.length ≤ 78 ∧ decV l < R 8 then .tuple #[num (decV l), .bool true] else .tuple #[num 0, .bool false]
theorem fa_num0 : fa 8 (dg 0) = fa 8 (fun _ => 0) := (fa_dg0 8).symm

set_option maxRecDepth 100000 in
set_option maxHeartbeats 1000000 in
theorem parse_any (s : ByteArray) (hdig : s.toList.all isDig = true) (hs : s.size < 4611686018427387904) (w : World) :
    Calls Tryd.prog 45 #[.string s] w fun e w' => e = .returned (parseV s.toList) ∧ Below w.heap.size w w' := by
  have HDIG := Lib.hid hdig
  clear hdig
  have HLEN := Lib.hid (len_list s)
  go_enter Tryd.func45, Tryd.ntmps45
  go_upto_region 1 with (fail)
  by_cases hlen : (78 : Int) < (s.size : Int)
  · have hK := KS.one w (.cells (fa 8 (fun _ => 0)) 24)
    obtain ⟨W, hW⟩ : ∃ W, W = w.alloc (.cells (fa 8 (fun _ => 0)) 24) := ⟨_, rfl⟩
    rw [← hW] at hK
    rw [fa_zero8] at hW
    rw [← hW]
    clear hW
    have HK := Lib.hid hK
    clear hK
    have HV := Lib.hid (show parseV s.toList = .tuple #[num 0, .bool false] from if_neg (fun h => by have := HLEN.out; omega))
    go_wp2_with (first
      | (refine wpList_sta (f := fun _ => 0) (f' := fun _ => 0) rfl rfl rfl rfl (HK.out.2 _ (.head _)) size25 ?_))
    exact bodyPost_ret (res_cell_tmp rfl rfl (setRow_heap _ _ _ _ _ _ (HK.out.2 _ (.head _))) Tryd.underlying24 rfl (by rw [size25, fa_size])) rfl ⟨by rw [HV.out, num, fa_num0]; rfl, below_setRow HK.out.1 (by omega) _⟩
  · have hl78 : s.toList.length ≤ 78 := by have := HLEN.out; omega
    have HL78 := Lib.hid hl78
    clear hl78
    go_upto_region 4 with (fail)
    have hK := KS.two w (.cells (fa 8 (fun _ => 0)) 24) (.cells (fa 18 (fun _ => 0)) 59)
    obtain ⟨W, hW⟩ : ∃ W, W = (w.alloc (.cells (fa 8 (fun _ => 0)) 24)).alloc (.cells (fa 18 (fun _ => 0)) 59) := ⟨_, rfl⟩
    rw [← hW] at hK
    rw [fa_zero8, fa_zero18] at hW
    rw [← hW]
    clear hW
    have HK := Lib.hid hK
    clear hK
    go_wp2
    go_loopw [12] (fun i wr => ∃ k : Nat, k ≤ s.size ∧ i = .int .i64 k ∧ Hid (KS w [(w.heap.size, .cells (fa 8 (fun _ => 0)) 24 (0, 0)), (w.heap.size + 1, .cells (fa 18 (dg (decV (s.toList.take k)))) 59 (0, 0))] wr))
      (fun i _ => (s.size - intOf i).toNat)
    case atStart => exact ⟨0, by omega, rfl, by rw [fa_dg0 18] at HK; exact HK⟩
    case round =>
      clear HK
      obtain ⟨k, hk, rfl, HK⟩ := hrel
      rcases Nat.lt_or_ge k s.size with hks | hks
      · have h1 : (k : Int) < (s.size : Int) := by omega
        have HG := Lib.hid (get_list s k hks)
        have hstep := decV_take HG.out
        have hvl := decV_lt k s.toList HDIG.out
        have hvl' := decV_lt (k + 1) s.toList HDIG.out
        have h78 : 10 ^ (k + 1) ≤ 10 ^ 78 := Nat.pow_le_pow_right (by omega) (by omega)
        have h78' : 10 ^ k ≤ 10 ^ 78 := Nat.pow_le_pow_right (by omega) (by omega)
        have hc : 48 ≤ s[k].toNat ∧ s[k].toNat ≤ 57 := by
          have := List.all_eq_true.1 HDIG.out _ (List.mem_of_getElem? HG.out)
          unfold isDig at this
          simp at this
          exact this
        have hv18 : decV (s.toList.take k) < R 18 := lt_R_of_le (Nat.lt_trans (Nat.lt_of_lt_of_le hvl h78') ten78) (by omega)
        have hr18 : decV (s.toList.take k) * 10 + (s[k].toNat - 48) < R 18 := by rw [← hstep]; exact lt_R_of_le (Nat.lt_trans (Nat.lt_of_lt_of_le hvl' h78) ten78) (by omega)
        have hd32 : s[k].toNat - 48 < 4294967296 := by omega
        have HST := Lib.hid hstep
        clear hstep hvl hvl' h78 h78'
        generalize decV (s.toList.take k) = v at *
        have HX := Lib.hid (⟨hc, hv18, hr18, hd32⟩ : (48 ≤ s[k].toNat ∧ s[k].toNat ≤ 57) ∧ v < R 18 ∧ v * 10 + (s[k].toNat - 48) < R 18 ∧ s[k].toNat - 48 < 4294967296)
        clear hc hv18 hr18 hd32
        go_wp2_with fail
        obtain ⟨hc, hv18, hr18, hd32⟩ := HX.out
        refine wp_region_U (W0 := w) [(w.heap.size, .cells (fa 8 (fun _ => 0)) 24 (0, 0)), (w.heap.size + 1, .cells (fa 18 (dg v)) 59 (0, 0))] (by kernel_rfl) (HK.out) ?_
        refine wpU_v (i := 0) (v := wid v) rfl rfl (by kernel_rfl) (by kernel_rfl) rfl (yb_lda rfl (by kernel_rfl) (.tail _ (.head _)) Tryd.underlying59 rfl size65) (by simp only [List.setIfInBounds_toArray, List.set_cons_succ, List.set_cons_zero] <;> rfl) ?_
        refine wpU_p (i := 1) (v := .string s) rfl rfl (by kernel_rfl) (by kernel_rfl) rfl (fun _ => by kernel_rfl) (by simp only [List.setIfInBounds_toArray, List.set_cons_succ, List.set_cons_zero] <;> rfl) ?_
        refine wpU_p (i := 2) (v := .int .i64 (k : Int)) rfl rfl (by kernel_rfl) (by kernel_rfl) rfl (fun _ => by kernel_rfl) (by simp only [List.setIfInBounds_toArray, List.set_cons_succ, List.set_cons_zero] <;> rfl) ?_
        refine wpU_p (i := 3) (v := .int .u8 ((s[k].toNat : Nat) : Int)) rfl rfl (by kernel_rfl) (by kernel_rfl) rfl (run_idx rfl (by kernel_rfl) (by kernel_rfl) hks) (by simp only [List.setIfInBounds_toArray, List.set_cons_succ, List.set_cons_zero] <;> rfl) ?_
        refine wpU_p (i := 4) (v := .int .u8 ((s[k].toNat - 48 : Nat) : Int)) rfl rfl (by kernel_rfl) (by kernel_rfl) rfl (run_bin rfl (vx := .int .u8 ((s[k].toNat : Nat) : Int)) (vy := .int .u8 48) (by kernel_rfl) (by kernel_rfl) fun w => run_sub48 w hc) (by simp only [List.setIfInBounds_toArray, List.set_cons_succ, List.set_cons_zero] <;> rfl) ?_
        refine wpU_p (i := 5) (v := .int .u32 ((s[k].toNat - 48 : Nat) : Int)) rfl rfl (by kernel_rfl) (by kernel_rfl) rfl (run_cv rfl (by kernel_rfl) hc) (by simp only [List.setIfInBounds_toArray, List.set_cons_succ, List.set_cons_zero] <;> rfl) ?_
        refine wpU_v (i := 6) (v := wid (v * 10 + (s[k].toNat - 48))) rfl rfl (by kernel_rfl) (by kernel_rfl) rfl (yb_call (f := 64) (args := #[wid v, .int .u32 10, .int .u32 ((s[k].toNat - 48 : Nat) : Int)]) (fun _ => by kernel_rfl) fun W hW => timesPlus_any v 10 (s[k].toNat - 48) hv18 (by omega) hd32 hr18 W) (by simp only [List.setIfInBounds_toArray, List.set_cons_succ, List.set_cons_zero] <;> rfl) ?_
        refine wpU_s [(w.heap.size, .cells (fa 8 (fun _ => 0)) 24 (0, 0)), (w.heap.size + 1, .cells (fa 18 (dg (v * 10 + (s[k].toNat - 48)))) 59 (0, 0))] (i := 7) rfl (by kernel_rfl) rfl rfl rfl
          (st_a rfl rfl rfl (.tail _ (.head _)) (by omega) size65 (by intro p hp; simp only [List.mem_cons, List.not_mem_nil, or_false] at hp; rcases hp with rfl | rfl; exact .inr ⟨by simp, by simp only; omega⟩; exact .inl rfl)) ?_
        refine wpU_done (by kernel_rfl) (fun W4 hW4 => ?_) _
        clear hc hv18 hr18 hd32
        have HW := Lib.hid hW4
        clear hW4
        go_wp2_with fail
        go_roundw
        case rel => exact ⟨k + 1, by omega, rfl, by rw [HST.out]; exact HW⟩
        case measure => simp only [intOf]; omega
      · have h1 : ¬ (k : Int) < (s.size : Int) := by omega
        have htk : s.toList.take k = s.toList := List.take_of_length_le (by have := HLEN.out; omega)
        rw [htk] at HK
        have hv18 : decV s.toList < R 18 := by
          have h0 := decV_lt k s.toList HDIG.out
          rw [htk] at h0
          have h78' : 10 ^ k ≤ 10 ^ 78 := Nat.pow_le_pow_right (by omega) (by omega)
          exact lt_R_of_le (Nat.lt_trans (Nat.lt_of_lt_of_le h0 h78') ten78) (by omega)
        have HV18 := Lib.hid hv18
        clear htk hv18
        by_cases hv8 : decV s.toList < R 8
        · have HV := Lib.hid (show parseV s.toList = .tuple #[num (decV s.toList), .bool true] from if_pos ⟨HL78.out, hv8⟩)
          have HV8 := Lib.hid hv8
          clear hv8
          generalize decV s.toList = v at *
          go_wp2_with (first
            | (refine wpList_lda rfl rfl rfl (HK.out.2 _ (.tail _ (.head _))) Tryd.underlying59 rfl size65 ?_)
            | ((go_at_call 65); refine (narrow_yes v HV8.out _).mono ?_; rintro e w1 ⟨rfl, hb1⟩; have HK1 := Lib.hid (HK.out.below hb1); clear hb1; unfold num)
            | (refine wpList_sta (f := dg (v)) (f' := fun _ => 0) rfl rfl rfl rfl (HK1.out.2 _ (.head _)) size25 ?_))
          exact bodyPost_ret (res_cell_tmp rfl rfl (setRow_heap _ _ _ _ _ _ (HK1.out.2 _ (.head _))) Tryd.underlying24 rfl (by rw [size25, fa_size])) rfl ⟨by rw [HV.out]; rfl, below_setRow HK1.out.1 (by omega) _⟩
        · have HV := Lib.hid (show parseV s.toList = .tuple #[num 0, .bool false] from if_neg (fun h => hv8 h.2))
          have HV8 := Lib.hid (Nat.le_of_not_lt hv8)
          clear hv8
          generalize decV s.toList = v at *
          go_wp2_with (first
            | (refine wpList_lda rfl rfl rfl (HK.out.2 _ (.tail _ (.head _))) Tryd.underlying59 rfl size65 ?_)
            | ((go_at_call 65); refine (narrow_no v HV18.out HV8.out _).mono ?_; rintro e w1 ⟨rfl, hb1⟩; have HK1 := Lib.hid (HK.out.below hb1); clear hb1; unfold num)
            | (refine wpList_sta (f := dg (0)) (f' := fun _ => 0) rfl rfl rfl rfl (HK1.out.2 _ (.head _)) size25 ?_))
          exact bodyPost_ret (res_cell_tmp rfl rfl (setRow_heap _ _ _ _ _ _ (HK1.out.2 _ (.head _))) Tryd.underlying24 rfl (by rw [size25, fa_size])) rfl ⟨by rw [HV.out]; rfl, below_setRow HK1.out.1 (by omega) _⟩
end Go.Proofs.YtkfcikijmkgahaaDoor
